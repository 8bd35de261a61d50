/- Parts of the proof: ClU. Conditions: each theorem's own. -/
import Derived.Test.YtkbpdoomhfkngaaGreatR37
import Derived.Test.YtkbpdoomhfkngaaGreatR39
namespace Go.Proofs.YtkbpdoomhfkngaaGreat
set_option linter.unusedVariables false
set_option linter.unusedSimpArgs false
set_option maxRecDepth 100000
set_option maxHeartbeats 40000000
section
open Go.RowKit Go.Sort Go.BigFrame
def QnCap(w:World) (A:Option Addr) (n:Nat):Prop:=∀ b off,A=some ⟨b,off,none⟩→∀ i,i<n→∀ A' n' c',w.cell? ⟨b,off+i*7,none⟩=some (.slice A' n' c')→n'≤c'
def PredQnC(g:Nat) (x0:Value) (f:Qn→Bool) (l:List Qn) (w:World):Prop:=
 ∀ x,x∈l→∀ (B:Option Addr) (c:Nat) (A:Option Addr) (ca:Nat) (D:Option Addr) (cb:Nat) (W:World),Below w.heap.size w W→RdT W B x.ns.length x.ns∧rdX W x.x A D→x.ns.length≤c →
  Calls Tryz.prog g #[x0,.agg (qnA x B c A ca D cb)] W fun e w'=>e=.returned (.bool (f x))∧Below W.heap.size W w'
theorem slIndexQnC(g:Nat) (x0:Value) (eg:∀ args w,(callFunc g args).run Tryz.prog w=.ok (.enter g args) w) (f:Qn→Bool) (A:Option Addr) (n c:Nat) (l:List Qn) (w:World) (h:RdQ w A n l) (hcap:QnCap w A n) (hf:PredQnC g x0 f l w):
 Calls Tryz.prog 18 #[.slice A n c,.func (.func g) #[x0] #[]] w fun e w'=>e=.returned (.int .i64 (findI f l 0))∧Below w.heap.size w w':=by
 have HR:=Hd h;have HP:=Hd hf;have HCP:=Hd hcap;have hln:=RdS.len h;have hmx:=RdS.max h;have HHIT:=Hd (fun(k:Nat) hk hn hy=>show findI f l 0=(k:Int) by have:=findI_hit (l:=l) (f:=f) (k:=k) (i:=0) hk hn hy;rwa [Nat.zero_add] at this);have HNO:=Hd (fun hn=>show findI f l 0=-1 from findI_none (l:=l) (f:=f) (i:=0) hn);generalize findI f l 0=out at *;have HLN:=Hd hln;clear h hf hln hcap;unfold PredQnC at HP
 go_enter Tryz.func18,Tryz.ntmps18
 go_wp2_with fail
 go_loopw [5,8] (fun _ i wr=>∃ k:Nat,k≤n∧i=.int .i64 k∧(∀ j,j<k→f (l[j]?.getD default)=false)∧Below w.heap.size w wr) (fun _ i _=>n-(intOf i).toNat)
 case atStart=>exact⟨0,Nat.zero_le _,rfl,fun j hj=>absurd hj (by omega),Below.refl _ _⟩
 case round=>
  obtain⟨k,hk,rfl,hto,hnx⟩:=hrel;have HT:=Hd hto;have HNX:=Hd hnx;clear hto
  by_cases hlt:k<n
  · obtain⟨b,off,B,cB,A1,ca,D,cb,rfl,hb,hrd,d0,d1,d2,d3,d4,d5,d6⟩:=qn_at (HR.out.below hnx) hlt
    have HCL:=Hd (HP.out _ (getD_memA (by rw [HLN.out];exact hlt)) B cB A1 ca D cb wr hnx hrd (by
     obtain⟨b2,off2,e2,hb2,-⟩:=RdS.at_ HR.out (by omega);injection e2 with e2;injection e2 with e3 e4 _;subst e3 e4;exact HCP.out b off rfl k hlt B _ cB ((hnx.cell (p:=⟨b,off+k*7,none⟩) hb2).symm.trans d0)))
    have HH:=Hd (HHIT.out k (by rw [HLN.out];exact hlt) HT.out);have HS:=Hd fun(hf:f (l[k]?.getD default)=false)=>to_next (P:=fun j=>f (l[j]?.getD default)=false) HT.out hf;clear hnx  hrd;unfold qnA at HCL;generalize l[k]?.getD default=x at d0 d1 d2 d3 d4 d5 d6 HCL HH HS
    cases hq:f x with
    | true=>
     have HO:=Hd (HH.out hq);rw [hq] at HCL
     go_wp2_with (go_at_fn g;refine HCL.out.mono ?_;rintro e w3 ⟨rfl,hb3⟩)
     go_ret
     exact⟨ret_int HO.out.symm,HNX.out.trans (hb3.mono HNX.out.size)⟩
    | false=>
     have HO:=Hd (HS.out hq);rw [hq] at HCL
     go_wp2_with (go_at_fn g;refine HCL.out.mono ?_;rintro e w3 ⟨rfl,hb3⟩;have HB3:=Hd (HNX.out.trans (hb3.mono HNX.out.size));clear hb3)
     go_roundw
     case rel=>exact⟨k+1,by omega,by go_num,HO.out,HB3.out⟩
     case measure=>simp [intOf];omega
  · have hkn:k=n:=by omega
    have HN:=Hd (HNO.out fun j hj=>HT.out j (by rw [HLN.out] at hj;omega))
    go_wp2_with fail
    go_ret
    exact⟨ret_int HN.out.symm,HNX.out⟩
theorem clUntimed(es:List En) (x:Nd) (r:Km) (d:Dc) (w:World) (h:rdKm w es x r):
 Calls Tryz.prog 17 #[.agg (kmA es x r),.agg (dcA d)] w fun e w'=>e=.returned (.bool (untimedB es x d))∧Below w.heap.size w w':=by
 have HF:=Hd fun w0 hw=>cl_box2 (w:=w) (w1:=w0) (cs:=kmA es x r) (ds:=dcA d) (T:=57) (U:=43) hw;have HRW:=Hd fun w1 (hb:Below w.heap.size w w1)=>clRow es x r d.nm w1 (h.below hb);have HC:=Hd (show untimedB es x d=!(rowC es x d.nm).isSome from rfl);clear h;unfold RowPostP at HRW;generalize untimedB es x d=out at *;generalize rowC es x d.nm=orow at *;unfold kmA dcA at *;generalize es.length=pe at *
 go_enter Tryz.func17,Tryz.ntmps17
 go_upto_region 1 with(fail)
 generalize hw0:(w.alloc _).alloc _=w0;obtain⟨hb0,hsz,hp,hq⟩:=HF.out w0 hw0;have HB0:=Hd hb0;obtain⟨r0,r1,r2,r3,r4,r5⟩:=Sx (hp w0 (Below.refl _ _));have d0:=hq w0 (Below.refl _ _) 0;simp only [Ya,Yb,Yc] at r0 r1 r2 r3 r4 r5 d0;have HR0:=Hd (HRW.out w0 hb0);clear hw0 hb0 hsz hp hq HF HRW
 go_wp2_with fail
 refine HR0.out.mono ?_;rintro e w1 ⟨hb1,hpost⟩;have HB1:=Hd (below_nextC HB0.out hb1);clear HR0 r0 r1 r2 r3 r4 r5 d0 hb1
 cases hor:orow with
 | none=>
  rw [hor] at hpost HC;subst hpost;have HO:=Hd (show out=true from HC.out)
  go_wp2_with fail
  go_ret
  exact⟨ret_boolC HO.out.symm,HB1.out⟩
 | some row=>
  rw [hor] at hpost HC;obtain⟨S,sc,rfl,-⟩:=hpost;have HO:=Hd (show out=false from HC.out)
  go_wp2_with fail
  go_ret
  exact⟨ret_boolC HO.out.symm,HB1.out⟩
theorem drop_yes{l:List ByteArray}{f:ByteArray→Bool}{k:Nat}(hk:k+1<l.length) (h:f (l[k+1]?.getD ByteArray.empty)=true):(l.drop 1).any f=true:=by
 rw [List.any_eq_true];rw [List.getElem?_eq_getElem hk,Option.getD_some] at h;refine⟨_,?_,h⟩;rw [List.mem_drop_iff_getElem];exact⟨k,by omega,by congr 1;omega⟩
theorem drop_no{l:List ByteArray}{f:ByteArray→Bool}(h:∀ k,k+1<l.length→f (l[k+1]?.getD ByteArray.empty)=false):(l.drop 1).any f=false:=by
 rw [List.any_eq_false];intro s hs;rw [List.mem_drop_iff_getElem] at hs;obtain⟨k,hk,rfl⟩:=hs;have:=h k (by omega);rw [List.getElem?_eq_getElem (show k+1<l.length by omega),Option.getD_some] at this;simp only [show 1+k=k+1 by omega,this]
 decide
theorem clWrong(es:List En) (x:Nd) (r:Km) (q:Qn) (BN:Option Addr) (cN:Nat) (A:Option Addr) (ca:Nat) (B:Option Addr) (cb:Nat) (w:World) (h:rdKm w es x r) (hn:RdT w BN q.ns.length q.ns) (hx:rdX w q.x A B) (h0:0<q.ns.length) (hcap:q.ns.length≤cN) (hF:FbyTwo q.x) (hs:sizeX q.x≤1000000):
 Calls Tryz.prog 19 #[.agg (kmA es x r),.agg (qnA q BN cN A ca B cb)] w fun e w'=>e=.returned (.bool (wrongC es x q))∧Below w.heap.size w w':=by
 have HF:=Hd fun w0 hw=>cl_box2 (w:=w) (w1:=w0) (cs:=kmA es x r) (ds:=qnA q BN cN A ca B cb) (T:=57) (U:=54) hw;have HRW:=Hd fun s w1 (hb:Below w.heap.size w w1)=>clRow es x r s w1 (h.below hb);have HFT:=Hd fun S m c row w1 (hb:Below w.heap.size w w1) (hr:RdC w1 S m row) (hc:m≤c) (hm:m≤1000)=>clFitsX es x r q.x A ca B cb S m c row w1 (h.below hb) (hx.below hb) hr hc hF hs (by omega);have HHA:=Hd fun s S m c row w1 (hb:Below w.heap.size w w1) (hr:RdC w1 S m row)=>clHas es x r s S m c row w1 (h.below hb) hr;have HNT:=Hd fun k (hk:k<q.ns.length)=>RdT.cellC (k:=k) hn hk
 have HC:=Hd (show wrongC es x q=match rowC es x (q.ns[0]?.getD ByteArray.empty) with
  | none=>true
  | some row=>!fitX es x q.x row || (q.ns.drop 1).any fun s=>!hasC es x s row from rfl)
 have HLN:=Hd fun s row (h:rowC es x s=some row)=>row_len h;have HYS:=Hd fun row k (hk:k+1<q.ns.length) (h:(!hasC es x (q.ns[k+1]?.getD ByteArray.empty) row)=true)=>drop_yes (l:=q.ns) (f:=fun s=>!hasC es x s row) hk h;have HNO:=Hd fun row (h:∀ k,k+1<q.ns.length→(!hasC es x (q.ns[k+1]?.getD ByteArray.empty) row)=false)=>drop_no (l:=q.ns) (f:=fun s=>!hasC es x s row) h;have hnx:=hn.2.1;clear h hn hx hF;unfold RowPostP at HRW;generalize wrongC es x q=out at *;unfold kmA qnA at *;unfold exA at HFT;generalize hes:es.length=pe at *;generalize q.x.arms.length=xa at *;generalize q.x.subs.length=xs at *;generalize hql:q.ns.length=ql at *;obtain⟨m1,rfl⟩:∃ m1,ql=m1+1:=⟨ql-1,by omega⟩
 go_enter Tryz.func19,Tryz.ntmps19
 go_upto_region 1 with(fail)
 generalize hw0:(w.alloc _).alloc _=w0;obtain⟨hb0,hsz,hp,hq⟩:=HF.out w0 hw0;have HB0:=Hd hb0;have HP:=Hd hp;have HX:=Hd hq;obtain⟨r0,r1,r2,r3,r4,r5⟩:=Sx (hp w0 (Below.refl _ _));have q0:=hq w0 (Below.refl _ _) 0;simp only [Ya,Yb,Yc] at r0 r1 r2 r3 r4 r5 q0;obtain⟨tb,tof,rfl,htb,t0⟩:=HNT.out 0 h0;have t0:=(hb0.cell (p:=⟨tb,tof+0,none⟩) htb).trans t0;simp only [Nat.add_zero] at t0;have HRX:=Hd fun W (hb:Below w0.heap.size w0 W)=>HRW.out (q.ns[0]?.getD ByteArray.empty) W (below_nextC HB0.out hb);have HLX:=Hd (HLN.out (q.ns[0]?.getD ByteArray.empty));have h0i:(0:Int)<(m1:Int)+1:=by omega
 clear hw0 hb0 hsz hp hq HF HRW HLN;generalize q.ns[0]?.getD ByteArray.empty=s0 at *;generalize rowC es x s0=orow at *
 cases orow with
 | none=>
  have HO:=Hd (show out=true from HC.out);have HRN:=Hd fun W (hb:Below w0.heap.size w0 W)=>(HRX.out W hb).mono fun e w' (h:_∧e=_)=>(show e=.returned (.tuple #[.slice none 0 0,.bool false])∧Below W.heap.size W w' from⟨h.2,h.1⟩)
  go_upto_region 1 with(fail)
  refine wp_region_held_drew (S:=fun Wz=>Below w0.heap.size w0 Wz) (by kernel_rfl) ?_ (fun hHeld=>?_)
  · exact(Below.refl w0.heap.size w0).drew
  refine wpAnyH_take (i:=0) (oi:=?oi1) (v:=?v1) ?h1x1 (by kernel_rfl) ?h3x1 (by kernel_rfl) ?h5x1 (Or.inl ⟨?h6x1,?h7x1⟩) hHeld ?h8x1
  case h1x1=>
   simp only [Ya,Yb,Yc];rfl
  case h3x1=>kernel_rfl
  case h5x1=>exact fun _ _ _ h=>h
  case h6x1=>rfl
  case h7x1=>
   intro Wz hSW;have r0:=(hSW.cell (World.block_lt_of_cell? _ _ r0)).trans r0;have r1:=(hSW.cell (World.block_lt_of_cell? _ _ r1)).trans r1;have r2:=(hSW.cell (World.block_lt_of_cell? _ _ r2)).trans r2;have r3:=(hSW.cell (World.block_lt_of_cell? _ _ r3)).trans r3;have r4:=(hSW.cell (World.block_lt_of_cell? _ _ r4)).trans r4;have r5:=(hSW.cell (World.block_lt_of_cell? _ _ r5)).trans r5;have q0:=(hSW.cell (World.block_lt_of_cell? _ _ q0)).trans q0;have t0:=(hSW.cell (World.block_lt_of_cell? _ _ t0)).trans t0
   first | (go_simp;done) | (go_simp;with_reducible rfl)
  (try simp only [Act.put,Yd,Ye,Yf])
  refine wpAnyH_take (i:=1) (oi:=?oi2) (v:=?v2) ?h1x2 (by kernel_rfl) ?h3x2 (by kernel_rfl) ?h5x2 (Or.inl ⟨?h6x2,?h7x2⟩) hHeld ?h8x2
  case h1x2=>
   simp only [Ya,Yb,Yc];rfl
  case h3x2=>kernel_rfl
  case h5x2=>exact fun _ _ _ h=>h
  case h6x2=>rfl
  case h7x2=>
   intro Wz hSW;have r0:=(hSW.cell (World.block_lt_of_cell? _ _ r0)).trans r0;have r1:=(hSW.cell (World.block_lt_of_cell? _ _ r1)).trans r1;have r2:=(hSW.cell (World.block_lt_of_cell? _ _ r2)).trans r2;have r3:=(hSW.cell (World.block_lt_of_cell? _ _ r3)).trans r3;have r4:=(hSW.cell (World.block_lt_of_cell? _ _ r4)).trans r4;have r5:=(hSW.cell (World.block_lt_of_cell? _ _ r5)).trans r5;have q0:=(hSW.cell (World.block_lt_of_cell? _ _ q0)).trans q0;have t0:=(hSW.cell (World.block_lt_of_cell? _ _ t0)).trans t0
   first | (go_simp;done) | (go_simp;with_reducible rfl)
  (try simp only [Act.put,Yd,Ye,Yf])
  refine wpAnyH_take (i:=2) (oi:=?oi3) (v:=?v3) ?h1x3 (by kernel_rfl) ?h3x3 (by kernel_rfl) ?h5x3 (Or.inl ⟨?h6x3,?h7x3⟩) hHeld ?h8x3
  case h1x3=>
   simp only [Ya,Yb,Yc];rfl
  case h3x3=>kernel_rfl
  case h5x3=>exact fun _ _ _ h=>h
  case h6x3=>rfl
  case h7x3=>
   intro Wz hSW;have r0:=(hSW.cell (World.block_lt_of_cell? _ _ r0)).trans r0;have r1:=(hSW.cell (World.block_lt_of_cell? _ _ r1)).trans r1;have r2:=(hSW.cell (World.block_lt_of_cell? _ _ r2)).trans r2;have r3:=(hSW.cell (World.block_lt_of_cell? _ _ r3)).trans r3;have r4:=(hSW.cell (World.block_lt_of_cell? _ _ r4)).trans r4;have r5:=(hSW.cell (World.block_lt_of_cell? _ _ r5)).trans r5;have q0:=(hSW.cell (World.block_lt_of_cell? _ _ q0)).trans q0;have t0:=(hSW.cell (World.block_lt_of_cell? _ _ t0)).trans t0
   first | (go_simp;done) | (go_simp;with_reducible rfl)
  (try simp only [Act.put,Yd,Ye,Yf])
  refine wpAnyH_take (i:=3) (oi:=?oi4) (v:=?v4) ?h1x4 (by kernel_rfl) ?h3x4 (by kernel_rfl) ?h5x4 (Or.inl ⟨?h6x4,?h7x4⟩) hHeld ?h8x4
  case h1x4=>
   simp only [Ya,Yb,Yc];rfl
  case h3x4=>kernel_rfl
  case h5x4=>exact fun _ _ _ h=>h
  case h6x4=>rfl
  case h7x4=>
   intro Wz hSW;have r0:=(hSW.cell (World.block_lt_of_cell? _ _ r0)).trans r0;have r1:=(hSW.cell (World.block_lt_of_cell? _ _ r1)).trans r1;have r2:=(hSW.cell (World.block_lt_of_cell? _ _ r2)).trans r2;have r3:=(hSW.cell (World.block_lt_of_cell? _ _ r3)).trans r3;have r4:=(hSW.cell (World.block_lt_of_cell? _ _ r4)).trans r4;have r5:=(hSW.cell (World.block_lt_of_cell? _ _ r5)).trans r5;have q0:=(hSW.cell (World.block_lt_of_cell? _ _ q0)).trans q0;have t0:=(hSW.cell (World.block_lt_of_cell? _ _ t0)).trans t0
   first | (go_simp;done) | (go_simp;with_reducible rfl)
  (try simp only [Act.put,Yd,Ye,Yf])
  refine wpAnyH_take (i:=4) (oi:=?oi5) (v:=?v5) ?h1x5 (by kernel_rfl) ?h3x5 (by kernel_rfl) ?h5x5 (Or.inl ⟨?h6x5,?h7x5⟩) hHeld ?h8x5
  case h1x5=>
   simp only [Ya,Yb,Yc];rfl
  case h3x5=>kernel_rfl
  case h5x5=>exact fun _ _ _ h=>h
  case h6x5=>rfl
  case h7x5=>
   intro Wz hSW;have r0:=(hSW.cell (World.block_lt_of_cell? _ _ r0)).trans r0;have r1:=(hSW.cell (World.block_lt_of_cell? _ _ r1)).trans r1;have r2:=(hSW.cell (World.block_lt_of_cell? _ _ r2)).trans r2;have r3:=(hSW.cell (World.block_lt_of_cell? _ _ r3)).trans r3;have r4:=(hSW.cell (World.block_lt_of_cell? _ _ r4)).trans r4;have r5:=(hSW.cell (World.block_lt_of_cell? _ _ r5)).trans r5;have q0:=(hSW.cell (World.block_lt_of_cell? _ _ q0)).trans q0;have t0:=(hSW.cell (World.block_lt_of_cell? _ _ t0)).trans t0
   first | (go_simp;done) | (go_simp;with_reducible rfl)
  (try simp only [Act.put,Yd,Ye,Yf])
  refine wpAnyH_ready (rs:=[5]) (by kernel_rfl) (by simp) ?_;refine AllReadyH.cons (by rfl) (fun K hK=>?_) AllReadyH.nil
  go_simp
  (go_at_call 24;(with_reducible refine(HRN.out _ ?hx).mono ?_);(case hx=>exact hHeld);rintro e Wn ⟨rfl,hq⟩;have HBn:=Hd (hHeld.trans (hq.mono hHeld.size));clear hq)
  go_wp2_with fail
  refine hK.out _ _ ?_ (fun hHeld=>?_)
  · exact HBn.out
  clear hK K
  (try simp only [Act.put,Yd,Ye,Yf])
  refine wpAnyH_take (i:=6) (oi:=?oi6) (v:=?v6) ?h1x6 (by kernel_rfl) ?h3x6 (by kernel_rfl) ?h5x6 (Or.inl ⟨?h6x6,?h7x6⟩) hHeld ?h8x6
  case h1x6=>
   simp only [Ya,Yb,Yc];rfl
  case h3x6=>kernel_rfl
  case h5x6=>exact fun _ _ _ h=>h
  case h6x6=>rfl
  case h7x6=>
   intro Wz hSW;have r0:=(hSW.cell (World.block_lt_of_cell? _ _ r0)).trans r0;have r1:=(hSW.cell (World.block_lt_of_cell? _ _ r1)).trans r1;have r2:=(hSW.cell (World.block_lt_of_cell? _ _ r2)).trans r2;have r3:=(hSW.cell (World.block_lt_of_cell? _ _ r3)).trans r3;have r4:=(hSW.cell (World.block_lt_of_cell? _ _ r4)).trans r4;have r5:=(hSW.cell (World.block_lt_of_cell? _ _ r5)).trans r5;have q0:=(hSW.cell (World.block_lt_of_cell? _ _ q0)).trans q0;have t0:=(hSW.cell (World.block_lt_of_cell? _ _ t0)).trans t0
   first | (go_simp;done) | (go_simp;with_reducible rfl)
  (try simp only [Act.put,Yd,Ye,Yf])
  refine wpAnyH_take (i:=7) (oi:=?oi7) (v:=?v7) ?h1x7 (by kernel_rfl) ?h3x7 (by kernel_rfl) ?h5x7 (Or.inl ⟨?h6x7,?h7x7⟩) hHeld ?h8x7
  case h1x7=>
   simp only [Ya,Yb,Yc];rfl
  case h3x7=>kernel_rfl
  case h5x7=>exact fun _ _ _ h=>h
  case h6x7=>rfl
  case h7x7=>
   intro Wz hSW;have r0:=(hSW.cell (World.block_lt_of_cell? _ _ r0)).trans r0;have r1:=(hSW.cell (World.block_lt_of_cell? _ _ r1)).trans r1;have r2:=(hSW.cell (World.block_lt_of_cell? _ _ r2)).trans r2;have r3:=(hSW.cell (World.block_lt_of_cell? _ _ r3)).trans r3;have r4:=(hSW.cell (World.block_lt_of_cell? _ _ r4)).trans r4;have r5:=(hSW.cell (World.block_lt_of_cell? _ _ r5)).trans r5;have q0:=(hSW.cell (World.block_lt_of_cell? _ _ q0)).trans q0;have t0:=(hSW.cell (World.block_lt_of_cell? _ _ t0)).trans t0
   first | (go_simp;done) | (go_simp;with_reducible rfl)
  (try simp only [Act.put,Yd,Ye,Yf])
  refine wpAnyH_take (i:=8) (oi:=?oi8) (v:=?v8) ?h1x8 (by kernel_rfl) ?h3x8 (by kernel_rfl) ?h5x8 (Or.inl ⟨?h6x8,?h7x8⟩) hHeld ?h8x8
  case h1x8=>
   simp only [Ya,Yb,Yc];rfl
  case h3x8=>kernel_rfl
  case h5x8=>exact fun _ _ _ h=>h
  case h6x8=>rfl
  case h7x8=>
   intro Wz hSW;have r0:=(hSW.cell (World.block_lt_of_cell? _ _ r0)).trans r0;have r1:=(hSW.cell (World.block_lt_of_cell? _ _ r1)).trans r1;have r2:=(hSW.cell (World.block_lt_of_cell? _ _ r2)).trans r2;have r3:=(hSW.cell (World.block_lt_of_cell? _ _ r3)).trans r3;have r4:=(hSW.cell (World.block_lt_of_cell? _ _ r4)).trans r4;have r5:=(hSW.cell (World.block_lt_of_cell? _ _ r5)).trans r5;have q0:=(hSW.cell (World.block_lt_of_cell? _ _ q0)).trans q0;have t0:=(hSW.cell (World.block_lt_of_cell? _ _ t0)).trans t0
   first | (go_simp;done) | (go_simp;with_reducible rfl)
  (try simp only [Act.put,Yd,Ye,Yf])
  refine wpAnyH_take (i:=9) (oi:=?oi9) (v:=?v9) ?h1x9 (by kernel_rfl) ?h3x9 (by kernel_rfl) ?h5x9 (Or.inl ⟨?h6x9,?h7x9⟩) hHeld ?h8x9
  case h1x9=>
   simp only [Ya,Yb,Yc];rfl
  case h3x9=>kernel_rfl
  case h5x9=>exact fun _ _ _ h=>h
  case h6x9=>rfl
  case h7x9=>
   intro Wz hSW;have r0:=(hSW.cell (World.block_lt_of_cell? _ _ r0)).trans r0;have r1:=(hSW.cell (World.block_lt_of_cell? _ _ r1)).trans r1;have r2:=(hSW.cell (World.block_lt_of_cell? _ _ r2)).trans r2;have r3:=(hSW.cell (World.block_lt_of_cell? _ _ r3)).trans r3;have r4:=(hSW.cell (World.block_lt_of_cell? _ _ r4)).trans r4;have r5:=(hSW.cell (World.block_lt_of_cell? _ _ r5)).trans r5;have q0:=(hSW.cell (World.block_lt_of_cell? _ _ q0)).trans q0;have t0:=(hSW.cell (World.block_lt_of_cell? _ _ t0)).trans t0
   first | (go_simp;done) | (go_simp;with_reducible rfl)
  (try simp only [Act.put,Yd,Ye,Yf])
  refine wpAnyH_take (i:=10) (oi:=?oi10) (v:=?v10) ?h1x10 (by kernel_rfl) ?h3x10 (by kernel_rfl) ?h5x10 (Or.inl ⟨?h6x10,?h7x10⟩) hHeld ?h8x10
  case h1x10=>
   simp only [Ya,Yb,Yc];rfl
  case h3x10=>kernel_rfl
  case h5x10=>exact fun _ _ _ h=>h
  case h6x10=>rfl
  case h7x10=>
   intro Wz hSW;have r0:=(hSW.cell (World.block_lt_of_cell? _ _ r0)).trans r0;have r1:=(hSW.cell (World.block_lt_of_cell? _ _ r1)).trans r1;have r2:=(hSW.cell (World.block_lt_of_cell? _ _ r2)).trans r2;have r3:=(hSW.cell (World.block_lt_of_cell? _ _ r3)).trans r3;have r4:=(hSW.cell (World.block_lt_of_cell? _ _ r4)).trans r4;have r5:=(hSW.cell (World.block_lt_of_cell? _ _ r5)).trans r5;have q0:=(hSW.cell (World.block_lt_of_cell? _ _ q0)).trans q0;have t0:=(hSW.cell (World.block_lt_of_cell? _ _ t0)).trans t0
   first | (go_simp;done) | (go_simp;with_reducible rfl)
  (try simp only [Act.put,Yd,Ye,Yf])
  refine wpAnyH_done (by kernel_rfl) ?_ _
  go_wp2_with fail
  go_ret
  exact⟨ret_boolC HO.out.symm,below_nextC HB0.out HBn.out⟩
 | some row=>
  have HCO:=Hd (show out=(!fitX es x q.x row || (q.ns.drop 1).any fun s=>!hasC es x s row) from HC.out);have HRN:=Hd fun W (hb:Below w0.heap.size w0 W)=>(HRX.out W hb).mono fun e w' (h:_∧_)=>(show(∃ A c,e=.returned (.tuple #[.slice A row.length c,.bool true])∧RdC w' A row.length row∧row.length≤c)∧Below W.heap.size W w' from⟨h.2,h.1⟩);have HLY:=Hd (HLX.out row rfl);have HYR:=Hd (HYS.out row);have HNR:=Hd (HNO.out row);clear HC HRX HLX HYS HNO
  go_upto_region 1 with(fail)
  refine wp_region_held_drew (S:=fun Wz=>Below w0.heap.size w0 Wz) (by kernel_rfl) ?_ (fun hHeld=>?_)
  · exact(Below.refl w0.heap.size w0).drew
  refine wpAnyH_take (i:=0) (oi:=?oi11) (v:=?v11) ?h1x11 (by kernel_rfl) ?h3x11 (by kernel_rfl) ?h5x11 (Or.inl ⟨?h6x11,?h7x11⟩) hHeld ?h8x11
  case h1x11=>
   simp only [Ya,Yb,Yc];rfl
  case h3x11=>kernel_rfl
  case h5x11=>exact fun _ _ _ h=>h
  case h6x11=>rfl
  case h7x11=>
   intro Wz hSW;have r0:=(hSW.cell (World.block_lt_of_cell? _ _ r0)).trans r0;have r1:=(hSW.cell (World.block_lt_of_cell? _ _ r1)).trans r1;have r2:=(hSW.cell (World.block_lt_of_cell? _ _ r2)).trans r2;have r3:=(hSW.cell (World.block_lt_of_cell? _ _ r3)).trans r3;have r4:=(hSW.cell (World.block_lt_of_cell? _ _ r4)).trans r4;have r5:=(hSW.cell (World.block_lt_of_cell? _ _ r5)).trans r5;have q0:=(hSW.cell (World.block_lt_of_cell? _ _ q0)).trans q0;have t0:=(hSW.cell (World.block_lt_of_cell? _ _ t0)).trans t0
   first | (go_simp;done) | (go_simp;with_reducible rfl)
  (try simp only [Act.put,Yd,Ye,Yf])
  refine wpAnyH_take (i:=1) (oi:=?oi12) (v:=?v12) ?h1x12 (by kernel_rfl) ?h3x12 (by kernel_rfl) ?h5x12 (Or.inl ⟨?h6x12,?h7x12⟩) hHeld ?h8x12
  case h1x12=>
   simp only [Ya,Yb,Yc];rfl
  case h3x12=>kernel_rfl
  case h5x12=>exact fun _ _ _ h=>h
  case h6x12=>rfl
  case h7x12=>
   intro Wz hSW;have r0:=(hSW.cell (World.block_lt_of_cell? _ _ r0)).trans r0;have r1:=(hSW.cell (World.block_lt_of_cell? _ _ r1)).trans r1;have r2:=(hSW.cell (World.block_lt_of_cell? _ _ r2)).trans r2;have r3:=(hSW.cell (World.block_lt_of_cell? _ _ r3)).trans r3;have r4:=(hSW.cell (World.block_lt_of_cell? _ _ r4)).trans r4;have r5:=(hSW.cell (World.block_lt_of_cell? _ _ r5)).trans r5;have q0:=(hSW.cell (World.block_lt_of_cell? _ _ q0)).trans q0;have t0:=(hSW.cell (World.block_lt_of_cell? _ _ t0)).trans t0
   first | (go_simp;done) | (go_simp;with_reducible rfl)
  (try simp only [Act.put,Yd,Ye,Yf])
  refine wpAnyH_take (i:=2) (oi:=?oi13) (v:=?v13) ?h1x13 (by kernel_rfl) ?h3x13 (by kernel_rfl) ?h5x13 (Or.inl ⟨?h6x13,?h7x13⟩) hHeld ?h8x13
  case h1x13=>
   simp only [Ya,Yb,Yc];rfl
  case h3x13=>kernel_rfl
  case h5x13=>exact fun _ _ _ h=>h
  case h6x13=>rfl
  case h7x13=>
   intro Wz hSW;have r0:=(hSW.cell (World.block_lt_of_cell? _ _ r0)).trans r0;have r1:=(hSW.cell (World.block_lt_of_cell? _ _ r1)).trans r1;have r2:=(hSW.cell (World.block_lt_of_cell? _ _ r2)).trans r2;have r3:=(hSW.cell (World.block_lt_of_cell? _ _ r3)).trans r3;have r4:=(hSW.cell (World.block_lt_of_cell? _ _ r4)).trans r4;have r5:=(hSW.cell (World.block_lt_of_cell? _ _ r5)).trans r5;have q0:=(hSW.cell (World.block_lt_of_cell? _ _ q0)).trans q0;have t0:=(hSW.cell (World.block_lt_of_cell? _ _ t0)).trans t0
   first | (go_simp;done) | (go_simp;with_reducible rfl)
  (try simp only [Act.put,Yd,Ye,Yf])
  refine wpAnyH_take (i:=3) (oi:=?oi14) (v:=?v14) ?h1x14 (by kernel_rfl) ?h3x14 (by kernel_rfl) ?h5x14 (Or.inl ⟨?h6x14,?h7x14⟩) hHeld ?h8x14
  case h1x14=>
   simp only [Ya,Yb,Yc];rfl
  case h3x14=>kernel_rfl
  case h5x14=>exact fun _ _ _ h=>h
  case h6x14=>rfl
  case h7x14=>
   intro Wz hSW;have r0:=(hSW.cell (World.block_lt_of_cell? _ _ r0)).trans r0;have r1:=(hSW.cell (World.block_lt_of_cell? _ _ r1)).trans r1;have r2:=(hSW.cell (World.block_lt_of_cell? _ _ r2)).trans r2;have r3:=(hSW.cell (World.block_lt_of_cell? _ _ r3)).trans r3;have r4:=(hSW.cell (World.block_lt_of_cell? _ _ r4)).trans r4;have r5:=(hSW.cell (World.block_lt_of_cell? _ _ r5)).trans r5;have q0:=(hSW.cell (World.block_lt_of_cell? _ _ q0)).trans q0;have t0:=(hSW.cell (World.block_lt_of_cell? _ _ t0)).trans t0
   first | (go_simp;done) | (go_simp;with_reducible rfl)
  (try simp only [Act.put,Yd,Ye,Yf])
  refine wpAnyH_take (i:=4) (oi:=?oi15) (v:=?v15) ?h1x15 (by kernel_rfl) ?h3x15 (by kernel_rfl) ?h5x15 (Or.inl ⟨?h6x15,?h7x15⟩) hHeld ?h8x15
  case h1x15=>
   simp only [Ya,Yb,Yc];rfl
  case h3x15=>kernel_rfl
  case h5x15=>exact fun _ _ _ h=>h
  case h6x15=>rfl
  case h7x15=>
   intro Wz hSW;have r0:=(hSW.cell (World.block_lt_of_cell? _ _ r0)).trans r0;have r1:=(hSW.cell (World.block_lt_of_cell? _ _ r1)).trans r1;have r2:=(hSW.cell (World.block_lt_of_cell? _ _ r2)).trans r2;have r3:=(hSW.cell (World.block_lt_of_cell? _ _ r3)).trans r3;have r4:=(hSW.cell (World.block_lt_of_cell? _ _ r4)).trans r4;have r5:=(hSW.cell (World.block_lt_of_cell? _ _ r5)).trans r5;have q0:=(hSW.cell (World.block_lt_of_cell? _ _ q0)).trans q0;have t0:=(hSW.cell (World.block_lt_of_cell? _ _ t0)).trans t0
   first | (go_simp;done) | (go_simp;with_reducible rfl)
  (try simp only [Act.put,Yd,Ye,Yf])
  refine wpAnyH_ready (rs:=[5]) (by kernel_rfl) (by simp) ?_;refine AllReadyH.cons (by rfl) (fun K hK=>?_) AllReadyH.nil
  go_simp
  (go_at_call 24;(with_reducible refine(HRN.out _ ?hx).mono ?_);(case hx=>exact hHeld);rintro e Wn ⟨⟨S9,c9,rfl,hr9,hc9⟩,hq⟩;have HBn:=Hd (hHeld.trans (hq.mono hHeld.size));have HRg:=Hd hr9;have HCg:=Hd hc9;clear hr9 hc9;clear hq)
  go_wp2_with fail
  refine hK.out _ _ ?_ (fun hHeld=>?_)
  · exact HBn.out
  clear hK K
  (try simp only [Act.put,Yd,Ye,Yf])
  refine wpAnyH_take (i:=6) (oi:=?oi16) (v:=?v16) ?h1x16 (by kernel_rfl) ?h3x16 (by kernel_rfl) ?h5x16 (Or.inl ⟨?h6x16,?h7x16⟩) hHeld ?h8x16
  case h1x16=>
   simp only [Ya,Yb,Yc];rfl
  case h3x16=>kernel_rfl
  case h5x16=>exact fun _ _ _ h=>h
  case h6x16=>rfl
  case h7x16=>
   intro Wz hSW;have r0:=(hSW.cell (World.block_lt_of_cell? _ _ r0)).trans r0;have r1:=(hSW.cell (World.block_lt_of_cell? _ _ r1)).trans r1;have r2:=(hSW.cell (World.block_lt_of_cell? _ _ r2)).trans r2;have r3:=(hSW.cell (World.block_lt_of_cell? _ _ r3)).trans r3;have r4:=(hSW.cell (World.block_lt_of_cell? _ _ r4)).trans r4;have r5:=(hSW.cell (World.block_lt_of_cell? _ _ r5)).trans r5;have q0:=(hSW.cell (World.block_lt_of_cell? _ _ q0)).trans q0;have t0:=(hSW.cell (World.block_lt_of_cell? _ _ t0)).trans t0
   first | (go_simp;done) | (go_simp;with_reducible rfl)
  (try simp only [Act.put,Yd,Ye,Yf])
  refine wpAnyH_take (i:=7) (oi:=?oi17) (v:=?v17) ?h1x17 (by kernel_rfl) ?h3x17 (by kernel_rfl) ?h5x17 (Or.inl ⟨?h6x17,?h7x17⟩) hHeld ?h8x17
  case h1x17=>
   simp only [Ya,Yb,Yc];rfl
  case h3x17=>kernel_rfl
  case h5x17=>exact fun _ _ _ h=>h
  case h6x17=>rfl
  case h7x17=>
   intro Wz hSW;have r0:=(hSW.cell (World.block_lt_of_cell? _ _ r0)).trans r0;have r1:=(hSW.cell (World.block_lt_of_cell? _ _ r1)).trans r1;have r2:=(hSW.cell (World.block_lt_of_cell? _ _ r2)).trans r2;have r3:=(hSW.cell (World.block_lt_of_cell? _ _ r3)).trans r3;have r4:=(hSW.cell (World.block_lt_of_cell? _ _ r4)).trans r4;have r5:=(hSW.cell (World.block_lt_of_cell? _ _ r5)).trans r5;have q0:=(hSW.cell (World.block_lt_of_cell? _ _ q0)).trans q0;have t0:=(hSW.cell (World.block_lt_of_cell? _ _ t0)).trans t0
   first | (go_simp;done) | (go_simp;with_reducible rfl)
  (try simp only [Act.put,Yd,Ye,Yf])
  refine wpAnyH_take (i:=8) (oi:=?oi18) (v:=?v18) ?h1x18 (by kernel_rfl) ?h3x18 (by kernel_rfl) ?h5x18 (Or.inl ⟨?h6x18,?h7x18⟩) hHeld ?h8x18
  case h1x18=>
   simp only [Ya,Yb,Yc];rfl
  case h3x18=>kernel_rfl
  case h5x18=>exact fun _ _ _ h=>h
  case h6x18=>rfl
  case h7x18=>
   intro Wz hSW;have r0:=(hSW.cell (World.block_lt_of_cell? _ _ r0)).trans r0;have r1:=(hSW.cell (World.block_lt_of_cell? _ _ r1)).trans r1;have r2:=(hSW.cell (World.block_lt_of_cell? _ _ r2)).trans r2;have r3:=(hSW.cell (World.block_lt_of_cell? _ _ r3)).trans r3;have r4:=(hSW.cell (World.block_lt_of_cell? _ _ r4)).trans r4;have r5:=(hSW.cell (World.block_lt_of_cell? _ _ r5)).trans r5;have q0:=(hSW.cell (World.block_lt_of_cell? _ _ q0)).trans q0;have t0:=(hSW.cell (World.block_lt_of_cell? _ _ t0)).trans t0
   first | (go_simp;done) | (go_simp;with_reducible rfl)
  (try simp only [Act.put,Yd,Ye,Yf])
  refine wpAnyH_take (i:=9) (oi:=?oi19) (v:=?v19) ?h1x19 (by kernel_rfl) ?h3x19 (by kernel_rfl) ?h5x19 (Or.inl ⟨?h6x19,?h7x19⟩) hHeld ?h8x19
  case h1x19=>
   simp only [Ya,Yb,Yc];rfl
  case h3x19=>kernel_rfl
  case h5x19=>exact fun _ _ _ h=>h
  case h6x19=>rfl
  case h7x19=>
   intro Wz hSW;have r0:=(hSW.cell (World.block_lt_of_cell? _ _ r0)).trans r0;have r1:=(hSW.cell (World.block_lt_of_cell? _ _ r1)).trans r1;have r2:=(hSW.cell (World.block_lt_of_cell? _ _ r2)).trans r2;have r3:=(hSW.cell (World.block_lt_of_cell? _ _ r3)).trans r3;have r4:=(hSW.cell (World.block_lt_of_cell? _ _ r4)).trans r4;have r5:=(hSW.cell (World.block_lt_of_cell? _ _ r5)).trans r5;have q0:=(hSW.cell (World.block_lt_of_cell? _ _ q0)).trans q0;have t0:=(hSW.cell (World.block_lt_of_cell? _ _ t0)).trans t0
   first | (go_simp;done) | (go_simp;with_reducible rfl)
  (try simp only [Act.put,Yd,Ye,Yf])
  refine wpAnyH_take (i:=10) (oi:=?oi20) (v:=?v20) ?h1x20 (by kernel_rfl) ?h3x20 (by kernel_rfl) ?h5x20 (Or.inl ⟨?h6x20,?h7x20⟩) hHeld ?h8x20
  case h1x20=>
   simp only [Ya,Yb,Yc];rfl
  case h3x20=>kernel_rfl
  case h5x20=>exact fun _ _ _ h=>h
  case h6x20=>rfl
  case h7x20=>
   intro Wz hSW;have r0:=(hSW.cell (World.block_lt_of_cell? _ _ r0)).trans r0;have r1:=(hSW.cell (World.block_lt_of_cell? _ _ r1)).trans r1;have r2:=(hSW.cell (World.block_lt_of_cell? _ _ r2)).trans r2;have r3:=(hSW.cell (World.block_lt_of_cell? _ _ r3)).trans r3;have r4:=(hSW.cell (World.block_lt_of_cell? _ _ r4)).trans r4;have r5:=(hSW.cell (World.block_lt_of_cell? _ _ r5)).trans r5;have q0:=(hSW.cell (World.block_lt_of_cell? _ _ q0)).trans q0;have t0:=(hSW.cell (World.block_lt_of_cell? _ _ t0)).trans t0
   first | (go_simp;done) | (go_simp;with_reducible rfl)
  (try simp only [Act.put,Yd,Ye,Yf])
  refine wpAnyH_done (by kernel_rfl) ?_ _;have hrm:=RdS.max HRg.out;have HB1:=Hd (below_nextC HB0.out HBn.out);have HFW:=Hd (HFT.out S9 row.length c9 row Wn HB1.out HRg.out HCg.out HLY.out);obtain⟨r0,r1,r2,r3,r4,r5⟩:=Sx (HP.out Wn HBn.out);obtain⟨-,q1,q2,q3,q4,q5⟩:=Sx (HX.out Wn HBn.out);have q6:=HX.out Wn HBn.out 6;simp only [Ya,Yb,Yc] at r0 r1 r2 r3 r4 r5 q1 q2 q3 q4 q5 q6;clear HFT q0 t0;generalize hm0:row.length=m0 at *;clear hm0;generalize fitX es x q.x row=ft at *
  go_wp2_with fail
  refine HFW.out.mono ?_;rintro e w2 ⟨rfl,hb2⟩;have HL2:=Hd (below_nextC HBn.out hb2);have HB2:=Hd (below_nextC HB1.out hb2);have HR2:=Hd (HRg.out.below hb2);have q0:=HX.out w2 HL2.out 0;simp only [Ya,Yb,Yc] at q0;clear hb2 HFW r0 r1 r2 r3 r4 r5 q1 q2 q3 q4 q5 q6
  cases ft with
  | false=>
   have HO:=Hd (show out=true from HCO.out)
   go_wp2_with fail
   go_ret
   exact⟨ret_boolC HO.out.symm,HB2.out⟩
  | true=>
   have HCP:=Hd (show out=((q.ns.drop 1).any fun s=>!hasC es x s row) from HCO.out)
   have HRD:=Hd (fun(hz:¬ cN=1) k (hk:k<m1) W (hb:Below w.heap.size w W)=>(show W.cell? ⟨tb,tof+1+k,none⟩=some (.string (q.ns[k+1]?.getD ByteArray.empty)) by
    obtain⟨b2,o2,e2,hb3,hc⟩:=HNT.out (k+1) (by omega);injection e2 with e2;injection e2 with e3 e4 _;subst e3 e4;have:=(hb.cell (p:=⟨tb,tof+(k+1),none⟩) hb3).trans hc;rwa [show tof+(k+1)=tof+1+k by omega] at this))
   have hl1:(m1:Int)+1-1=(m1:Int):=by omega
   by_cases hc1:cN=1
   · obtain rfl:m1=0:=by omega
     have HO:=Hd (show out=false by rw [HCP.out];exact HNR.out fun k hk=>absurd hk (by omega));subst hc1
     go_wp2_with fail
     go_loopw [32] (fun c wr=>c=.int .i64 0∧wr=w2) (fun c _=>0)
     case atStart=>exact⟨rfl,rfl⟩
     case round=>
      obtain⟨rfl,rfl⟩:=hrel
      go_wp2_with fail
      go_ret
      exact⟨ret_boolC HO.out.symm,HB2.out⟩
   · have hc2:(cN==1)=false:=by rw [beq_eq_false_iff_ne];exact hc1
     have HR3:=Hd fun k hk W hb=>HRD.out hc1 k hk W hb;have HZ:=Hd hc1;clear HRD
     go_wp2_with fail
     clear q0
     go_loopw [32] (fun c wr=>∃ k:Nat,k≤m1∧c=.int .i64 k∧(∀ a,a<k→(!hasC es x (q.ns[a+1]?.getD ByteArray.empty) row)=false)∧Below w2.heap.size w2 wr) (fun c _=>m1-(intOf c).toNat)
     case atStart=>exact⟨0,Nat.zero_le _,rfl,fun a ha=>absurd ha (by omega),Below.refl _ _⟩
     case round=>
      obtain⟨k,hk,rfl,hto,hbr⟩:=hrel;have HTO:=Hd hto;have HBR:=Hd hbr;have HBW:=Hd (below_nextC HB2.out hbr);have HLW:=Hd (below_nextC HL2.out hbr);clear hto
      by_cases hlt:k<m1
      · have t0:=HR3.out k hlt wr HBW.out;obtain⟨r0,r1,r2,r3,r4,r5⟩:=Sx (HP.out wr HLW.out);simp only [Ya,Yb,Yc] at r0 r1 r2 r3 r4 r5;have HHK:=Hd (HHA.out (q.ns[k+1]?.getD ByteArray.empty) S9 m0 c9 row wr HBW.out (HR2.out.below hbr));have HYK:=Hd (HYR.out k (by omega));have HNX:=Hd fun(h:(!hasC es x (q.ns[k+1]?.getD ByteArray.empty) row)=false)=>to_next (P:=fun a=>(!hasC es x (q.ns[a+1]?.getD ByteArray.empty) row)=false) HTO.out h;clear hbr;generalize q.ns[k+1]?.getD ByteArray.empty=sk at *;generalize hasC es x sk row=hv at *
        go_wp2_with fail
        refine HHK.out.mono ?_;rintro e w5 ⟨rfl,hb5⟩;have HB5:=Hd (below_nextC HBW.out hb5);have HL5:=Hd (below_nextC HBR.out hb5);clear hb5 HHK t0 r0 r1 r2 r3 r4 r5
        cases hv with
        | false=>
         have HO:=Hd (show out=true by rw [HCP.out];exact HYK.out rfl)
         go_wp2_with fail
         go_ret
         exact⟨ret_boolC HO.out.symm,HB5.out⟩
        | true=>
         have HT2:=Hd (HNX.out rfl)
         go_wp2_with fail
         go_roundw
         case rel=>exact⟨k+1,by omega,by go_num,HT2.out,HL5.out⟩
         case measure=>simp [intOf];omega
      · obtain rfl:k=m1:=by omega
        have HO:=Hd (show out=false by rw [HCP.out];exact HNR.out fun a ha=>HTO.out a (by omega));clear hbr
        go_wp2_with fail
        go_ret
        exact⟨ret_boolC HO.out.symm,HBW.out⟩
end
end Go.Proofs.YtkbpdoomhfkngaaGreat
