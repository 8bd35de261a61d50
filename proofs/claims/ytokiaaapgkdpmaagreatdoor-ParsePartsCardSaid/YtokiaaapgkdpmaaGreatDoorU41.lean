/- Parts: PcE, PsN, PsO. Conditions: each theorem's own. -/
import Derived.Test.YtokiaaapgkdpmaaGreatDoorU24
import Derived.Test.YtokiaaapgkdpmaaGreatDoorU39
import Derived.Test.YtokiaaapgkdpmaaGreatDoorU40
namespace Go.Proofs.YtokiaaapgkdpmaaGreatDoor
set_option linter.unusedVariables false
set_option linter.unusedSimpArgs false
set_option maxRecDepth 100000
set_option maxHeartbeats 40000000
section
open Go.RowKit Go.Sort
theorem ends_mono{P Q:PR (List Ex × Nat)→Prop}(hPQ:∀ o,P o→Q o):∀ {k:Nat}{fs:List Fr}{ps:List Ex}{sz:Nat}{r:List Tk},Ends k fs ps sz r P→Ends k fs ps sz r Q
 | 0,fs,ps,sz,r,h=>⟨h.1,hPQ _ h.2⟩
 | k+1,[],ps,sz,r,h=>h.elim
 | k+1,f::fs,ps,sz,r,h=>by
  simp only[Ends] at h ⊢
  cases hs:stepF f ps sz r with
  | bad q=>
   rw[hs] at h;exact hPQ _ h
  | ok z r2=>
   rw[hs] at h;exact ends_mono hPQ h
theorem ends_size{M K:Nat}(hM:5≤M){res:PR (List Ex × Nat)→Prop}:∀ (k:Nat) (fs:List Fr) (ps:List Ex) (sz:Nat) (r:List Tk),Ends k fs ps sz r res→r.length≤K→Fits K fs ps.length r.length→FGs M fs ps.length→(sz≤60→∀ y∈ps,AllG M y)→TE M r →
 Ends k fs ps sz r fun o=>res o∧match o with
  | .ok z _=>z.2≤sz+wFs fs+64*r.length
  | .bad _=>True
 | 0,fs,ps,sz,r,h,hK,hfit,hfg,hp,hr=>⟨h.1,h.2,(by show sz≤sz+wFs fs+64*r.length;omega)⟩
 | k+1,[],ps,sz,r,h,hK,hfit,hfg,hp,hr=>h
 | k+1,f::fs,ps,sz,r,h,hK,hfit,hfg,hp,hr=>by
  have hok:=step_ok (sz:=sz) f hr.2 hK hfit.1;have hsg:=sg_step hM f hfit.1 hfg.1 hp hr;simp only[Ends] at h ⊢
  cases hs:stepF f ps sz r with
  | bad q=>
   rw[hs] at h;exact⟨h,trivial⟩
  | ok z r2=>
   rw[hs] at h hok hsg;obtain⟨o1,o2,o3,o4,o5,o6⟩:=hok;obtain⟨g1,g2,g3,g4⟩:=hsg;refine ends_mono ?_ (ends_size hM k _ _ _ _ h (by omega) (Fits.append o5 (by rw[o6];exact Fits.mono o4 hfit.2)) (FGs.append g1 (by rw[o6];exact hfg.2)) g2 g4);intro o ⟨ho,hx⟩;refine⟨ho,?_⟩
   cases o with
   | bad q=>trivial
   | ok y r3=>
    have hx2:y.2≤z.2.2+wFs (z.1++fs)+64*r2.length:=hx;have e1:=wFs_append z.1 fs;have e2:wFs (f::fs)=wF f+wFs fs:=rfl
    show y.2≤sz+wFs (f::fs)+64*r.length
    omega
theorem read_size{M N:Nat}{r r1:List Tk}{x:Ex}(hM:5≤M)(hr:TE M r)(hN:r.length≤N)(hp:(psN N).ar r=.ok x r1):sizeX x≤18+64*r.length:=by
 obtain⟨k,h⟩:=machine_ends hr.2 hN;have h2:=ends_size (K:=r.length) hM k [.m .arrow] [] 0 r h (Nat.le_refl _) ⟨trivial,trivial⟩ ⟨trivial,trivial⟩ (fun _ y hy=>absurd hy List.not_mem_nil) hr
 have h3:∃ res:PR (List Ex × Nat),(match (psN N).ar r with
  | .ok x r1=>∃ x1,res=.ok ([x1],sizeX x) r1∧EndR r1∧r1.length<r.length∧(sizeX x≤60→x1=x)
  | .bad r1=>res=.bad r1)∧match res with
  | .ok z _=>z.2≤0+wFs [.m .arrow]+64*r.length
  | .bad _=>True:=ends_some h2
 obtain⟨res,h4,h5⟩:=h3;rw[hp] at h4;obtain⟨x1,rfl,_,_,h6⟩:=h4;have h7:sizeX x≤0+wFs [.m .arrow]+64*r.length:=h5;have h8:wFs [.m .arrow]=18:=rfl;omega
section
variable {w w':World}{A:Option Addr}{n c:Nat}{all:List Tk}
theorem pst_new(h:RdK w A n all){at_:Int}(hb:beginsB all at_=true)(w1:World)(h1:Below w.heap.size w w1):
 PSt (w1.alloc (.cells (prA (.slice A n c) at_ false) 67)) w1.heap.size A n c all (all.drop at_.toNat) false:=by
 obtain⟨h0,h2,h3,h4⟩:=begins_end hb;have hl:=h.1;refine⟨?_,(h.stay h1).up (by rw[bl_size,World.size_alloc];omega) (fun p v hc=>?_),by omega,?_,h3⟩
 · rw[heap_alloc_new,h4,show((n-(all.length-at_.toNat):Nat):Int)=at_ by omega]
 · have hlt:=World.block_lt_of_cell? _ _ hc;rw[bl_cell (by omega)];exact(World.cell?_alloc_lt _ _ _ hlt).trans hc
 · rw[h4,show n-(all.length-at_.toNat)=at_.toNat by omega]
theorem part_start(h:RdK w A n all){at_:Int}(hb:beginsB all at_=true):
 ∃ b0 off,A=some ⟨b0,off,none⟩∧b0<w.heap.size∧w.cell? ⟨b0,off+(n-1)*4,none⟩=some (.int .i64 6)∧0<n∧¬ at_<0∧¬ (n:Int)≤at_:=by
 have hb2:=hb;simp only[beginsB,Bool.and_eq_true,decide_eq_true_eq,beq_iff_eq] at hb2;obtain⟨h0,h1,h2⟩:=hb2;obtain⟨hl,hm,hc⟩:=h;have hn:0<n:=by omega
 obtain⟨b0,off,rfl,hlt,hcells⟩:=hc hn;have t0:=(hcells (n-1) (by omega)).1;rw[hl] at h2;rw[h2] at t0;exact⟨b0,off,rfl,hlt,t0,hn,by omega,by omega⟩
theorem part_below{w0 w2:World}{o:Obj}(hk:Below (w0.alloc o).heap.size (bl w0.heap.size (w0.alloc o)) (bl w0.heap.size w2)):Below w0.heap.size w0 w2:=by
 have hs:=hk.size;rw[bl_size,bl_size,World.size_alloc] at hs;refine⟨hk.os,hk.tape,hk.output,by omega,fun j hj=>?_⟩;have h1:=hk.block j (by rw[World.size_alloc];omega);rw[bl_block (by omega),bl_block (by omega),Below.heap_alloc _ _ _ hj] at h1;exact h1
theorem fr_blM{B m b0:Nat}{W:World}{x:Ex}{A1 B1:Option Addr}(h:rdX (fr B W) x A1 B1)(hm:m≤B):rdX (blM m b0 W) x A1 B1:=
 rdX_up (by rw[fr_size,blM_size];exact Nat.le_refl _) (fun p v hc=>by
  obtain⟨h1,h2⟩:=fr_some hc;rw[blM_cell (by omega)];exact h1) x A1 B1 h
theorem arrow_ok{N:Nat}{at_:Int}(hN:all.length≤N)(hN2:N≤1000000)(hb:beginsB all at_=true){x:Ex}{r1:List Tk}(hp:(psN N).ar (all.drop at_.toNat)=.ok x r1)(w1:World)(b:Nat)(hP:PSt w1 b A n c all (all.drop at_.toNat) false):
 Calls Tryz.prog 30 #[.pointer (some ⟨b,0,none⟩)] w1 fun e w'=>(∃ A' ca B' cb,e=.returned (.agg (exA x A' ca B' cb))∧rdX (fr w1.heap.size w') x A' B')∧PSt w' b A n c all r1 false∧Below w1.heap.size (bl b w1) (bl b w'):=by
 obtain⟨h0,h2,h3,h4⟩:=begins_end hb;exact PPost.ok_ (refArrow hN2 w1 b A n c all _ hP (by rw[h4];omega)) hp
theorem arrow_bad{N:Nat}{at_:Int}(hN:all.length≤N)(hN2:N≤1000000)(hb:beginsB all at_=true){q:List Tk}(hp:(psN N).ar (all.drop at_.toNat)=.bad q)(w1:World)(b:Nat)(hP:PSt w1 b A n c all (all.drop at_.toNat) false):
 Calls Tryz.prog 30 #[.pointer (some ⟨b,0,none⟩)] w1 fun e w'=>(∃ x A' ca B' cb,e=.returned (.agg (exA x A' ca B' cb)))∧PSt w' b A n c all q true∧Below w1.heap.size (bl b w1) (bl b w'):=by
 obtain⟨h0,h2,h3,h4⟩:=begins_end hb;exact PPost.bad_ (refArrow hN2 w1 b A n c all _ hP (by rw[h4];omega)) hp
theorem rp_none(N:Nat)(at_:Int)(h:RdK w A n all)(hN:all.length≤N)(hN2:N≤1000000)(ha:-9223372036854775808≤at_∧at_≤9223372036854775807)(hb:beginsB all at_=false):
 Calls Tryz.prog 14 #[.slice A n c,.int .i64 at_] w fun e w'=>Below w.heap.size w w'∧PartV w.heap.size (blkA A) N all at_ e w':=by
 have HPO:=Hd (partO_none (N:=N) hb);obtain⟨hl,hmx,hc⟩:=h;have hb2:(decide (0≤at_) && (decide (at_<(n:Int)) && ((all[n-1]?.getD default).k==6)))=false:=by rw[← hl];exact hb
 clear hb hl hN hN2
 by_cases h0:at_<0
 · clear hc hb2
   go_enter Tryz.func14,Tryz.ntmps14
   go_upto_region 1 with(fail)
   generalize hw0:w.alloc _=w0;have HB0:=Hd (show Below w.heap.size w w0 by rw[← hw0];exact(Below.refl _ _).alloc (Nat.le_refl _) _);have HR0:=Hd (show RowX w0 w.heap.size noneX none 0 none 0 by rw[← hw0];exact heap_alloc_new _ _);clear hw0
   go_wp2_with (first | (refine wpList_store_row rfl _ _ _ rfl (w.heap.size) _ rfl rfl _ _ (HR0.out) ex_info rfl (by simp[exA,Value.oneCell']) ?_))
   exact bodyPost_ret (res_ex3 (p:=4) (u:=5) (v:=6) rfl _ _ (w.heap.size) rfl (HR0.out.set (y:=noneX) (A2:=none) (ca2:=0) (B2:=none) (cb2:=0))) rfl ⟨below_setRow_ HB0.out (Nat.le_refl _) _,part_end HPO.out rfl (rdX_none _)⟩
 · by_cases h1:(n:Int)≤at_
   · clear hc hb2
     go_enter Tryz.func14,Tryz.ntmps14
     go_upto_region 1 with(fail)
     generalize hw0:w.alloc _=w0;have HB0:=Hd (show Below w.heap.size w w0 by rw[← hw0];exact(Below.refl _ _).alloc (Nat.le_refl _) _);have HR0:=Hd (show RowX w0 w.heap.size noneX none 0 none 0 by rw[← hw0];exact heap_alloc_new _ _);clear hw0
     go_wp2_with (first | (refine wpList_store_row rfl _ _ _ rfl (w.heap.size) _ rfl rfl _ _ (HR0.out) ex_info rfl (by simp[exA,Value.oneCell']) ?_))
     exact bodyPost_ret (res_ex3 (p:=4) (u:=5) (v:=6) rfl _ _ (w.heap.size) rfl (HR0.out.set (y:=noneX) (A2:=none) (ca2:=0) (B2:=none) (cb2:=0))) rfl ⟨below_setRow_ HB0.out (Nat.le_refl _) _,part_end HPO.out rfl (rdX_none _)⟩
   · have hn:0<n:=by omega
     obtain⟨b0,off,rfl,hlt,hcells⟩:=hc hn;have t0:=(hcells (n-1) (by omega)).1;have hw:IntKind.i64.wrap ((n:Int)-1)=((n-1:Nat):Int):=by rw[IntKind.wrap_i64];omega
     have hn2:((n-1:Nat):Int)<(n:Int):=by omega
     have hn3:(0:Int)≤((n-1:Nat):Int):=by omega
     have hn4:n-1<n:=by omega
     have hk6:((all[n-1]?.getD default).k != 6)=true:=by
      rw[decide_eq_true (by omega:0≤at_),decide_eq_true (by omega:at_<(n:Int)),Bool.true_and,Bool.true_and] at hb2;simp only[bne,hb2,Bool.not_false]
     generalize hm:n-1=m at *;generalize (all[m]?.getD default).k=k at *;clear hc hcells hm hb2
     go_enter Tryz.func14,Tryz.ntmps14
     go_upto_region 1 with(fail)
     generalize hw0:w.alloc _=w0;have HB0:=Hd (show Below w.heap.size w w0 by rw[← hw0];exact(Below.refl _ _).alloc (Nat.le_refl _) _);have HR0:=Hd (show RowX w0 w.heap.size noneX none 0 none 0 by rw[← hw0];exact heap_alloc_new _ _);have t0:=(HB0.out.cell (World.block_lt_of_cell? _ _ t0)).trans t0;clear hw0
     go_wp2_with (first | (refine wpList_store_row rfl _ _ _ rfl (w.heap.size) _ rfl rfl _ _ (HR0.out) ex_info rfl (by simp[exA,Value.oneCell']) ?_))
     exact bodyPost_ret (res_ex3 (p:=4) (u:=5) (v:=6) rfl _ _ (w.heap.size) rfl (HR0.out.set (y:=noneX) (A2:=none) (ca2:=0) (B2:=none) (cb2:=0))) rfl ⟨below_setRow_ HB0.out (Nat.le_refl _) _,part_end HPO.out rfl (rdX_none _)⟩
theorem rp_bad(N:Nat)(at_:Int)(h:RdK w A n all)(hN:all.length≤N)(hN2:N≤1000000)(hb:beginsB all at_=true){q:List Tk}(hp:(psN N).ar (all.drop at_.toNat)=.bad q):
 Calls Tryz.prog 14 #[.slice A n c,.int .i64 at_] w fun e w'=>Below w.heap.size w w'∧PartV w.heap.size (blkA A) N all at_ e w':=by
 have hpo:=partO_bad hb hp;have HB0N:=Hd (b0_ne h hb);have HPS:=Hd fun w1 (h1:Below w.heap.size w w1)=>pst_new (c:=c) h hb w1 h1;have HAR:=Hd fun w1 b (hP:PSt w1 b A n c all (all.drop at_.toNat) false)=>arrow_bad hN hN2 hb hp w1 b hP;obtain⟨b0,off,hA0,hb0,t0,hn0,h0,h1⟩:=part_start h hb;have hmx:=h.2.1;have hw:IntKind.i64.wrap ((n:Int)-1)=((n-1:Nat):Int):=by rw[IntKind.wrap_i64];omega
 have hn2:((n-1:Nat):Int)<(n:Int):=by omega
 have hn3:(0:Int)≤((n-1:Nat):Int):=by omega
 have hn4:n-1<n:=by omega
 try rw[h.1] at hpo
 have HPO:=Hd hpo;clear h hb hp hpo;subst hA0
 go_enter Tryz.func14,Tryz.ntmps14
 go_upto_region 1 with(fail)
 generalize hw0:w.alloc _=w0;have HB0:=Hd (show Below w.heap.size w w0 by rw[← hw0];exact(Below.refl _ _).alloc (Nat.le_refl _) _);have HR0:=Hd (show RowX w0 w.heap.size noneX none 0 none 0 by rw[← hw0];exact heap_alloc_new _ _);have t0:=(HB0.out.cell (World.block_lt_of_cell? _ _ t0)).trans t0;clear hw0;generalize hm:n-1=m at *
 go_wp2_with fail
 clear t0 hw hn2 hn3 hn4 hm;refine(HAR.out _ _ (HPS.out w0 HB0.out)).mono ?_;rintro e w2 ⟨⟨x,A1,ca1,B1,cb1,rfl⟩,hP,hk⟩;have hb2:=part_below hk;have HB2:=Hd (HB0.out.trans (hb2.mono HB0.out.size));have HR2:=Hd (show RowX w2 w.heap.size noneX none 0 none 0 from(hb2.block _ HR0.out.lt).trans HR0.out);clear hb2 hk;have hgb:w.heap.size≠w0.heap.size:=by have:=HR0.out.lt;omega
 generalize w0.heap.size=b at *;have q1:w2.cell? ⟨b,1,none⟩=some (.int .i64 ((n-q.length:Nat):Int)):=hP.cell 1;have q2:w2.cell? ⟨b,2,none⟩=some (.bool true):=hP.cell 2;clear hP;unfold exA
 go_upto_region 5 with(fail)
 have hal:=(Below.refl w2.heap.size w2).alloc (Nat.le_refl _) (.cells (exA x A1 ca1 B1 cb1) 26);have HR3:=Hd (show RowX (w2.alloc (.cells (exA x A1 ca1 B1 cb1) 26)) w.heap.size noneX none 0 none 0 from(hal.block _ HR2.out.lt).trans HR2.out);have HB3:=Hd (HB2.out.trans (hal.mono HB2.out.size));have q1:=(hal.cell (World.block_lt_of_cell? _ _ q1)).trans q1;have q2:=(hal.cell (World.block_lt_of_cell? _ _ q2)).trans q2;unfold exA at HR3 HB3 q1 q2;clear hal;generalize w2.alloc _=w3 at *;generalize w2.heap.size=eb at *;have hbg:b≠w.heap.size:=Ne.symm hgb;obtain⟨d0,d1,d2,d3,d4,d5⟩:=HR3.out.cells;have f0:=HR3.out.fz 0;have f1:=HR3.out.fz 1;have f2:=HR3.out.fz 2;have f3:=HR3.out.fz 3;have f4:=HR3.out.fz 4;have f5:=HR3.out.fz 5;have hl:=HR3.out.lt;unfold noneX at d0 d1 d2 d3 d4 d5;simp only[Ex.k,Ex.n,Ex.s,Ex.op,Ex.arms,Ex.subs,List.length_nil] at d0 d1 d2 d3 d4 d5
 go_upto_region 6 with(fail)
 go_region
 have hsx:=six_set HR3.out noneX none 0 none 0;unfold noneX at hsx;simp only[Ex.k,Ex.n,Ex.s,Ex.op,Ex.arms,Ex.subs,List.length_nil] at hsx;have hsy:(⟨#[]⟩:ByteArray)=ByteArray.empty:=rfl;simp only[hsy] at *;rw[hsx];clear hsx d0 d1 d2 d3 d4 d5 f0 f1 f2 f3 f4 f5 q1 q2;have HR4:=Hd (show RowX (w3.setRow w.heap.size (exA noneX none 0 none 0)).drew w.heap.size noneX none 0 none 0 from HR3.out.set);have HB4:=Hd (show Below w.heap.size w (w3.setRow w.heap.size (exA noneX none 0 none 0)).drew from(below_setRow_ HB3.out (Nat.le_refl _) _).drew);unfold noneX at HR4 HB4;generalize (w3.setRow w.heap.size _).drew=w4 at *
 go_wp2_with fail
 exact bodyPost_ret (res_ex3 (p:=4) (u:=5) (v:=6) rfl _ _ (w.heap.size) rfl HR4.out) rfl ⟨HB4.out,part_end HPO.out rfl (rdX_none _)⟩
theorem rp_read(N:Nat)(at_:Int)(h:RdK w A n all)(hN:all.length≤N)(hN2:N≤1000000)(hb:beginsB all at_=true){x:Ex}{r1:List Tk}(hp:(psN N).ar (all.drop at_.toNat)=.ok x r1)(hz:sizeX x≤1000000)(hsh:sizeX x≤60→∀ p∈partsX x,ShortP p):
 Calls Tryz.prog 14 #[.slice A n c,.int .i64 at_] w fun e w'=>Below w.heap.size w w'∧PartV w.heap.size (blkA A) N all at_ e w':=by
 have HSZ:=Hd hz;have HSH:=Hd hsh;have HPL:=Hd fun h=>partO_long (N:=N) hb hp h;have HPG:=Hd fun h1 h2=>partO_arg (N:=N) hb hp h1 h2;have hpo:=fun h1 h2=>partO_ok (N:=N) hb hp h1 h2;have HB0N:=Hd (b0_ne h hb);have HPS:=Hd fun w1 (h1:Below w.heap.size w w1)=>pst_new (c:=c) h hb w1 h1;have HAR:=Hd fun w1 b (hP:PSt w1 b A n c all (all.drop at_.toNat) false)=>arrow_ok hN hN2 hb hp w1 b hP;obtain⟨b0,off,hA0,hb0,t0,hn0,h0,h1⟩:=part_start h hb;have hmx:=h.2.1;have hw:IntKind.i64.wrap ((n:Int)-1)=((n-1:Nat):Int):=by rw[IntKind.wrap_i64];omega
 have hn2:((n-1:Nat):Int)<(n:Int):=by omega
 have hn3:(0:Int)≤((n-1:Nat):Int):=by omega
 have hn4:n-1<n:=by omega
 rw[h.1] at hpo;have HPO:=Hd hpo;clear h hb hp hpo;subst hA0
 go_enter Tryz.func14,Tryz.ntmps14
 go_upto_region 1 with(fail)
 generalize hw0:w.alloc _=w0;have HB0:=Hd (show Below w.heap.size w w0 by rw[← hw0];exact(Below.refl _ _).alloc (Nat.le_refl _) _);have HR0:=Hd (show RowX w0 w.heap.size noneX none 0 none 0 by rw[← hw0];exact heap_alloc_new _ _);have t0:=(HB0.out.cell (World.block_lt_of_cell? _ _ t0)).trans t0;clear hw0;generalize hm:n-1=m at *
 go_wp2_with fail
 clear t0 hw hn2 hn3 hn4 hm;refine(HAR.out _ _ (HPS.out w0 HB0.out)).mono ?_;clear hz hsh;rintro e w2 ⟨⟨A1,ca1,B1,cb1,rfl,hrd⟩,hP,hk⟩;have hb2:=part_below hk;have HRD:=Hd (show rdX (blM w0.heap.size (blkA (some ⟨b0,off,none⟩)) w2) x A1 B1 from fr_blM hrd (by rw[World.size_alloc];omega));have HB2:=Hd (HB0.out.trans (hb2.mono HB0.out.size));have HR2:=Hd (show RowX w2 w.heap.size noneX none 0 none 0 from(hb2.block _ HR0.out.lt).trans HR0.out);clear hb2 hk hrd;have hgb:w.heap.size≠w0.heap.size:=by have:=HR0.out.lt;omega
 have HGB:=Hd (show w.heap.size<w0.heap.size from HR0.out.lt);generalize w0.heap.size=b at *;have q1:w2.cell? ⟨b,1,none⟩=some (.int .i64 ((n-r1.length:Nat):Int)):=hP.cell 1;have q2:w2.cell? ⟨b,2,none⟩=some (.bool false):=hP.cell 2;clear hP;unfold exA
 go_upto_region 5 with(fail)
 have hal:=(Below.refl w2.heap.size w2).alloc (Nat.le_refl _) (.cells (exA x A1 ca1 B1 cb1) 26);have HE3:=Hd (show RowX (w2.alloc (.cells (exA x A1 ca1 B1 cb1) 26)) w2.heap.size x A1 ca1 B1 cb1 from heap_alloc_new _ _);have HR3:=Hd (show RowX (w2.alloc (.cells (exA x A1 ca1 B1 cb1) 26)) w.heap.size noneX none 0 none 0 from(hal.block _ HR2.out.lt).trans HR2.out);have HB3:=Hd (HB2.out.trans (hal.mono HB2.out.size));have HRD3:=Hd (rdX_blM HRD.out hal.size (fun k _ hk=>hal.block k hk));have q1:=(hal.cell (World.block_lt_of_cell? _ _ q1)).trans q1;have q2:=(hal.cell (World.block_lt_of_cell? _ _ q2)).trans q2;have hge:w.heap.size≠w2.heap.size:=by have:=HR2.out.lt;omega
 unfold exA at HE3 HR3 HB3 HRD3 q1 q2;clear hal HRD;generalize w2.alloc _=w3 at *;generalize w2.heap.size=eb at *;have HDP:=Hd fun w1 (h1:Below w3.heap.size w3 w1)=>refDepth x A1 ca1 B1 cb1 w1 ((rdX_of_blM HRD3.out).below h1) HSZ.out;obtain⟨e0,e1,e2,e3,e4,e5⟩:=HE3.out.cells
 go_wp2_with fail
 refine(HDP.out w3 (Below.refl _ _)).mono ?_;rintro e w4 ⟨rfl,hb4⟩;have HB4:=Hd (HB3.out.trans (hb4.mono HB3.out.size));have HR4:=Hd (show RowX w4 w.heap.size noneX none 0 none 0 from(hb4.block _ HR3.out.lt).trans HR3.out);have HE4:=Hd (show RowX w4 eb x A1 ca1 B1 cb1 from(hb4.block _ HE3.out.lt).trans HE3.out);have HH4:=Hd hb4;have q1:=(hb4.cell (World.block_lt_of_cell? _ _ q1)).trans q1;clear hb4 e0 e1 e2 e3 e4 e5 q2
 by_cases hdx:12<depthX x
 · have HDX:=Hd hdx;clear hdx;generalize depthX x=dx at *;have hdd:(12:Int)<(dx:Int):=by have:=HDX.out;omega
   have hd2:decide ((12:Int)<(dx:Int))=true:=decide_eq_true hdd
   go_wp2_with (first | (refine wpList_store_row rfl _ _ _ rfl (w.heap.size) _ rfl rfl _ _ (HR4.out) ex_info rfl (by simp[exA,Value.oneCell']) ?_))
   exact bodyPost_ret (res_ex3 (p:=4) (u:=5) (v:=6) rfl _ _ (w.heap.size) rfl (HR4.out.set (y:=noneX) (A2:=none) (ca2:=0) (B2:=none) (cb2:=0))) rfl ⟨below_setRow_ HB4.out (Nat.le_refl _) _,part_end (HPL.out (.inr HDX.out)) rfl (rdX_none _)⟩
 · have HDX:=Hd (Nat.le_of_not_lt hdx);have HDZ:=Hd hdx;clear hdx;generalize hdxx:depthX x=dx at HDX HDP ⊢;have HDXX:=Hd hdxx;clear hdxx;have hdd:¬ (12:Int)<(dx:Int):=by have:=HDX.out;omega
   have hd2:decide ((12:Int)<(dx:Int))=false:=decide_eq_false hdd;have HSC:=Hd fun w1 (h1:Below w3.heap.size w3 w1)=>refSize x A1 ca1 B1 cb1 w1 ((rdX_of_blM HRD3.out).below h1) HSZ.out;obtain⟨e0,e1,e2,e3,e4,e5⟩:=HE4.out.cells
   go_wp2_with fail
   refine(HSC.out w4 HH4.out).mono ?_;rintro e w5 ⟨rfl,hb5⟩;have HB5:=Hd (HB4.out.trans (hb5.mono HB4.out.size));have HR5:=Hd (show RowX w5 w.heap.size noneX none 0 none 0 from(hb5.block _ HR4.out.lt).trans HR4.out);have HE5:=Hd (show RowX w5 eb x A1 ca1 B1 cb1 from(hb5.block _ HE4.out.lt).trans HE4.out);have HH5:=Hd (HH4.out.trans (hb5.mono HH4.out.size));have q1:=(hb5.cell (World.block_lt_of_cell? _ _ q1)).trans q1;clear hb5 e0 e1 e2 e3 e4 e5
   by_cases hsx0:60<sizeX x
   · have HSX:=Hd hsx0;clear hsx0;generalize sizeX x=sx at *;have hs:(60:Int)<(sx:Int):=by have:=HSX.out;omega
     have hd:decide ((60:Int)<(sx:Int))=true:=decide_eq_true hs
     go_wp2_with (first | (refine wpList_store_row rfl _ _ _ rfl (w.heap.size) _ rfl rfl _ _ (HR5.out) ex_info rfl (by simp[exA,Value.oneCell']) ?_))
     exact bodyPost_ret (res_ex3 (p:=4) (u:=5) (v:=6) rfl _ _ (w.heap.size) rfl (HR5.out.set (y:=noneX) (A2:=none) (ca2:=0) (B2:=none) (cb2:=0))) rfl ⟨below_setRow_ HB5.out (Nat.le_refl _) _,part_end (HPL.out (.inl HSX.out)) rfl (rdX_none _)⟩
   · have HSX:=Hd hsx0;have HSY:=HSZ;have HNL:=Hd (show ¬ (60<sizeX x∨12<depthX x) by have:=HDZ.out;omega);have HRT:=Hd fun w1 (h1:Below w3.heap.size w3 w1)=>refRight x A1 ca1 B1 cb1 w1 ((rdX_of_blM HRD3.out).below h1) HSY.out (HSH.out (Nat.le_of_not_lt hsx0));clear hsx0;generalize sizeX x=sx at HSX ⊢;have hs:¬ (60:Int)<(sx:Int):=by have:=HSX.out;omega
     have hd:decide ((60:Int)<(sx:Int))=false:=decide_eq_false hs;obtain⟨e0,e1,e2,e3,e4,e5⟩:=HE5.out.cells
     go_wp2_with fail
     refine(HRT.out w5 HH5.out).mono ?_;rintro e w6 ⟨rfl,hb6⟩;have HB6:=Hd (HB5.out.trans (hb6.mono HB5.out.size));have HR6:=Hd (show RowX w6 w.heap.size noneX none 0 none 0 from(hb6.block _ HR5.out.lt).trans HR5.out);have HE6:=Hd (show RowX w6 eb x A1 ca1 B1 cb1 from(hb6.block _ HE5.out.lt).trans HE5.out);have HH6:=Hd (HH5.out.trans (hb6.mono HH5.out.size));have HRD6:=Hd (rdX_blM HRD3.out HH6.out.size (fun k _ hk=>HH6.out.block k hk));have q1:=(hb6.cell (World.block_lt_of_cell? _ _ q1)).trans q1;clear hb6 e0 e1 e2 e3 e4 e5
     cases hrx:rightX x with
     | false=>
      have HRX:=Hd hrx;clear hrx
      go_wp2_with (first | (refine wpList_store_row rfl _ _ _ rfl (w.heap.size) _ rfl rfl _ _ (HR6.out) ex_info rfl (by simp[exA,Value.oneCell']) ?_))
      exact bodyPost_ret (res_ex3 (p:=4) (u:=5) (v:=6) rfl _ _ (w.heap.size) rfl (HR6.out.set (y:=noneX) (A2:=none) (ca2:=0) (B2:=none) (cb2:=0))) rfl ⟨below_setRow_ HB6.out (Nat.le_refl _) _,part_end (HPG.out HNL.out HRX.out) rfl (rdX_none _)⟩
     | true=>
      have HRX:=Hd hrx;clear hrx;have hbg:b≠w.heap.size:=Ne.symm hgb;have heg:eb≠w.heap.size:=Ne.symm hge;obtain⟨e0,e1,e2,e3,e4,e5⟩:=HE6.out.cells;obtain⟨d0,d1,d2,d3,d4,d5⟩:=HR6.out.cells;have f0:=HR6.out.fz 0;have f1:=HR6.out.fz 1;have f2:=HR6.out.fz 2;have f3:=HR6.out.fz 3;have f4:=HR6.out.fz 4;have f5:=HR6.out.fz 5;have hl:=HR6.out.lt;unfold noneX at d0 d1 d2 d3 d4 d5;simp only[Ex.k,Ex.n,Ex.s,Ex.op,Ex.arms,Ex.subs,List.length_nil] at d0 d1 d2 d3 d4 d5
      go_upto_region 11 with(fail)
      go_region
      rw[six_set HR6.out x A1 ca1 B1 cb1];clear d0 d1 d2 d3 d4 d5 f0 f1 f2 f3 f4 f5 q1 e0 e1 e2 e3 e4 e5;have HR7:=Hd (show RowX (w6.setRow w.heap.size (exA x A1 ca1 B1 cb1)).drew w.heap.size x A1 ca1 B1 cb1 from HR6.out.set);have HB7:=Hd (show Below w.heap.size w (w6.setRow w.heap.size (exA x A1 ca1 B1 cb1)).drew from(below_setRow_ HB6.out (Nat.le_refl _) _).drew);have hkx:rdX (blM w.heap.size (blkA (some ⟨b0,off,none⟩)) (w6.setRow w.heap.size (exA x A1 ca1 B1 cb1)).drew) x A1 B1:=rdX_blM_le (rdX_blM HRD6.out (by show w6.heap.size≤(w6.setRow _ _).heap.size;rw[setRow_size];exact Nat.le_refl _) (fun k hk _=>(setRow_other _ _ _ _ (fun e=>hk ⟨by rw[e];exact HGB.out,by rw[e];exact HB0N.out⟩)))) (Nat.le_of_lt HGB.out);have HK7:=Hd hkx;clear hkx;generalize (w6.setRow w.heap.size _).drew=w7 at *
      go_wp2_with fail
      exact bodyPost_ret (res_ex3 (p:=4) (u:=5) (v:=6) rfl _ _ (w.heap.size) rfl HR7.out) rfl ⟨HB7.out,part_end (HPO.out HNL.out HRX.out) rfl HK7.out⟩
theorem refPartD{M:Nat}(N:Nat)(at_:Int)(h:RdK w A n all)(hn:all.length≤10000)(hN:all.length≤N)(hN2:N≤1000000)(ha:-9223372036854775808≤at_∧at_≤9223372036854775807)(hM:5≤M)(hM2:M≤1000)(ht:∀ t∈all,t.s.length≤M):
 Calls Tryz.prog 14 #[.slice A n c,.int .i64 at_] w fun e w'=>Below w.heap.size w w'∧PartV w.heap.size (blkA A) N all at_ e w':=by
 cases hb:beginsB all at_ with
 | false=>exact rp_none N at_ h hN hN2 ha hb
 | true=>
  obtain⟨h0,h2,h3,h4⟩:=begins_end hb;have hte:TE M (all.drop at_.toNat):=⟨fun t hx=>ht t (List.mem_of_mem_drop hx),h3⟩;have hle:(all.drop at_.toNat).length≤N:=by rw[h4];omega
  cases hp:(psN N).ar (all.drop at_.toNat) with
  | bad q=>exact rp_bad N at_ h hN hN2 hb hp
  | ok x r1=>
   have hz:=read_size hM hte hle hp;rw[h4] at hz;have hz2:sizeX x≤1000000:=by omega
   exact rp_read N at_ h hN hN2 hb hp hz2 fun hs=>read_short hM hM2 hte hle hp hs
end
end
section
open Go.RowKit Go.Sort
def toksL(s:ByteArray):List Tk:=(lexL 0 s.data.toList).1++[⟨6,[],0,s.size⟩]
def tokAt(all:List Tk)(k:Int):Tk:=all[k.toNat]?.getD default
def exprO(N:Nat)(s:ByteArray):Ex × Int × Int:=
 if 6000<s.size then(noneX,6000,3)
 else match (lexL 0 s.data.toList).2 with
  | some p=>(noneX,(p:Int),2)
  | none=>if(partO N (toksL s) 0).2.2=0 then
   if(tokAt (toksL s) (partO N (toksL s) 0).2.1).k=6 then((partO N (toksL s) 0).1,(s.size:Int),0) else(noneX,((tokAt (toksL s) (partO N (toksL s) 0).2.1).a:Int),2)
   else(noneX,((tokAt (toksL s) (partO N (toksL s) 0).2.1).a:Int),(partO N (toksL s) 0).2.2)
section
variable {w w':World}
def ExprV(z:Ex × Int × Int)(e:Ending)(w':World):Prop:=
 ∃ A1 ca B1 cb,e=.returned (.tuple #[.agg (exA z.1 A1 ca B1 cb),.int .i64 z.2.1,.int .i64 z.2.2])∧rdX w' z.1 A1 B1
theorem tok_apart{b0 off n g:Nat}{all:List Tk}{x:Ex}{A1:Option Addr}{ca:Nat}{B1:Option Addr}{cb:Nat}(h:RdK w (some ⟨b0,off,none⟩) n all)(hn:0<n)(hr:RowX w g x A1 ca B1 cb):g≠b0:=by
 rintro rfl;obtain⟨b,o,e,_,hc⟩:=h.2.2 hn;injection e with e;injection e with e1 e2;subst e1 e2;obtain⟨_,h1,_,h3⟩:=hc 0 hn
 have hcell:∀ j v,w.cell? ⟨g,j,none⟩=some v→(exA x A1 ca B1 cb)[j]?=some v:=fun j v hv=>by
  unfold World.cell? at hv;rw[show w.heap[g]?=_ from hr] at hv
  simpa using hv
 have g1:=hcell _ _ h1;have g3:=hcell _ _ h3
 match off,g1,g3 with
 | 0,g1,g3=>simp[exA] at g1
 | 1,g1,g3=>simp[exA] at g3
 | 2,g1,g3=>simp[exA] at g1
 | 3,g1,g3=>simp[exA] at g1
 | 4,g1,g3=>simp[exA] at g1
 | k+5,g1,g3=>simp[exA] at g1
theorem exprO_eq{N:Nat}{s:ByteArray}(hs:s.size≤6000)(hp:(lexL 0 s.data.toList).2=none):
 exprO N s=if(partO N (toksL s) 0).2.2=0 then if(tokAt (toksL s) (partO N (toksL s) 0).2.1).k=6 then((partO N (toksL s) 0).1,(s.size:Int),0) else(noneX,((tokAt (toksL s) (partO N (toksL s) 0).2.1).a:Int),2) else(noneX,((tokAt (toksL s) (partO N (toksL s) 0).2.1).a:Int),(partO N (toksL s) 0).2.2):=by
 unfold exprO;rw[if_neg (by omega),hp]
theorem expr_long(N:Nat)(s:ByteArray)(hs:s.size≤9223372036854775807)(h:6000<s.size):
 Calls Tryz.prog 7 #[.string s] w fun e w'=>Below w.heap.size w w'∧ExprV (exprO N s) e w':=by
 have HA:=Hd fun w1=>lxAll_long s 6000 w1 hs (by omega);unfold exprO;rw[if_pos h];clear h
 go_enter Tryz.func7,Tryz.ntmps7
 go_wp2_with fail
 generalize hw0:w.alloc _=w0;have HB0:=Hd (show Below w.heap.size w w0 by rw[← hw0];exact(Below.refl _ _).alloc (Nat.le_refl _) _);have HR0:=Hd (show RowX w0 w.heap.size noneX none 0 none 0 by rw[← hw0];exact heap_alloc_new _ _);clear hw0;refine(HA.out w0).mono ?_;rintro e w1 ⟨rfl,rfl⟩
 go_wp2_with (first | (refine wpList_store_row rfl _ _ _ rfl (w.heap.size) _ rfl rfl _ _ (HR0.out) ex_info rfl (by simp[exA,Value.oneCell']) ?_))
 exact bodyPost_ret (res_ex3 (p:=2) (u:=3) (v:=4) rfl _ _ (w.heap.size) rfl (HR0.out.set (y:=noneX) (A2:=none) (ca2:=0) (B2:=none) (cb2:=0))) rfl ⟨below_setRow_ HB0.out (Nat.le_refl _) _,_,_,_,_,rfl,rdX_none _⟩
theorem expr_bad(N:Nat)(s:ByteArray)(hs:s.size≤6000)(hv:Vars w){p:Nat}(hp:(lexL 0 s.data.toList).2=some p):
 Calls Tryz.prog 7 #[.string s] w fun e w'=>Below w.heap.size w w'∧ExprV (exprO N s) e w':=by
 have HA:=Hd fun w1 (h1:Below w.heap.size w w1)=>lxAll s 6000 w1 (by omega) (by omega) (hv.below h1);unfold exprO;rw[if_neg (by omega),hp];have HP:=Hd hp;clear hp hv
 go_enter Tryz.func7,Tryz.ntmps7
 go_wp2_with fail
 generalize hw0:w.alloc _=w0;have HB0:=Hd (show Below w.heap.size w w0 by rw[← hw0];exact(Below.refl _ _).alloc (Nat.le_refl _) _);have HR0:=Hd (show RowX w0 w.heap.size noneX none 0 none 0 by rw[← hw0];exact heap_alloc_new _ _);clear hw0;refine(HA.out w0 HB0.out).mono ?_;rintro e w1 ⟨hans,hb1⟩;have HB1:=Hd (HB0.out.trans (hb1.mono HB0.out.size));have HR1:=Hd (show RowX w1 w.heap.size noneX none 0 none 0 from(hb1.block _ HR0.out.lt).trans HR0.out);clear hb1;rcases hans with⟨p2,h2,rfl⟩|⟨h2,_⟩
 · rw[HP.out] at h2;injection h2 with h2;subst h2
   go_wp2_with (first | (refine wpList_store_row rfl _ _ _ rfl (w.heap.size) _ rfl rfl _ _ (HR1.out) ex_info rfl (by simp[exA,Value.oneCell']) ?_))
   exact bodyPost_ret (res_ex3 (p:=2) (u:=3) (v:=4) rfl _ _ (w.heap.size) rfl (HR1.out.set (y:=noneX) (A2:=none) (ca2:=0) (B2:=none) (cb2:=0))) rfl ⟨below_setRow_ HB1.out (Nat.le_refl _) _,_,_,_,_,rfl,rdX_none _⟩
 · rw[HP.out] at h2
   cases h2
theorem expr_read(N:Nat)(s:ByteArray)(hs:s.size≤6000)(hv:Vars w)(hp:(lexL 0 s.data.toList).2=none)(hN:6001≤N)(hsh:∀ x r1,(psN N).ar ((toksL s).drop 0)=.ok x r1→sizeX x≤60→∀ p∈partsX x,ShortP p)(ht:∀ t∈toksL s,TkOK t)(hlen:(toksL s).length≤6001)(hr:0≤(partO N (toksL s) 0).2.1∧(partO N (toksL s) 0).2.1<((toksL s).length:Int)):
 Calls Tryz.prog 7 #[.string s] w fun e w'=>Below w.heap.size w w'∧ExprV (exprO N s) e w':=by
 have HA:=Hd fun w1 (h1:Below w.heap.size w w1)=>lxAll s 6000 w1 (by omega) (by omega) (hv.below h1);have HEQ:=Hd (exprO_eq (N:=N) (by omega:s.size≤6000) hp);have HP:=Hd hp;have HPA:=Hd fun(w1:World) (A:Option Addr) (c:Nat) (hR:RdK w1 A (toksL s).length (toksL s))=>paPart (c:=c) N 0 hR ht (by omega) (by omega) (by decide) hsh;clear hp hv hsh ht
 go_enter Tryz.func7,Tryz.ntmps7
 go_wp2_with fail
 generalize hw0:w.alloc _=w0;have HB0:=Hd (show Below w.heap.size w w0 by rw[← hw0];exact(Below.refl _ _).alloc (Nat.le_refl _) _);have HR0:=Hd (show RowX w0 w.heap.size noneX none 0 none 0 by rw[← hw0];exact heap_alloc_new _ _);clear hw0;refine(HA.out w0 HB0.out).mono ?_;rintro e w1 ⟨hans,hb1⟩;have HB1:=Hd (HB0.out.trans (hb1.mono HB0.out.size));have HR1:=Hd (show RowX w1 w.heap.size noneX none 0 none 0 from(hb1.block _ HR0.out.lt).trans HR0.out);clear hb1;rcases hans with⟨p2,h2,rfl⟩|⟨h2,A,c,rfl,hR⟩
 · rw[HP.out] at h2
   cases h2
 · rw[show(lexL 0 s.data.toList).1.length+1=(toksL s).length by simp[toksL]] at hR ⊢;have HRK:=Hd (show RdK w1 A (toksL s).length (toksL s) from hR);have HPP:=Hd (HPA.out w1 A c hR);clear hR;unfold PartV at HPP;generalize hz:partO N (toksL s) 0=z at *;generalize hall:toksL s=all at *;have HAL:=Hd hall;have HZZ:=Hd hz;clear hz hall;obtain⟨x,k,f⟩:=z;simp only at hr HEQ ⊢
   go_wp2_with fail
   refine HPP.out.mono ?_;rintro e w2 ⟨hb2,A1,ca,B1,cb,rfl,hrd⟩;have HB2:=Hd (HB1.out.trans (hb2.mono HB1.out.size));have HR2:=Hd (show RowX w2 w.heap.size noneX none 0 none 0 from(hb2.block _ HR1.out.lt).trans HR1.out);have HRK2:=Hd (HRK.out.stay hb2);have HGL:=Hd HR1.out.lt;have HRD2:=Hd hrd;clear hb2 hrd;unfold exA
   go_upto_region 5 with(fail)
   have hal:=(Below.refl w2.heap.size w2).alloc (Nat.le_refl _) (.cells (exA x A1 ca B1 cb) 26);have HE3:=Hd (show RowX (w2.alloc (.cells (exA x A1 ca B1 cb) 26)) w2.heap.size x A1 ca B1 cb from heap_alloc_new _ _);have HR3:=Hd (show RowX (w2.alloc (.cells (exA x A1 ca B1 cb) 26)) w.heap.size noneX none 0 none 0 from(hal.block _ HR2.out.lt).trans HR2.out);have HB3:=Hd (HB2.out.trans (hal.mono HB2.out.size));have HRD3:=Hd (rdX_blM HRD2.out hal.size (fun k _ hk=>hal.block k hk));have HRK3:=Hd (HRK2.out.stay hal);have hge:w.heap.size≠w2.heap.size:=by have:=HR2.out.lt;omega
   unfold exA at HE3 HR3 HB3 HRD3 HRK3;clear hal;generalize w2.alloc _=w3 at *;generalize w2.heap.size=eb at *;obtain⟨kk,rfl⟩:∃ kk:Nat,k=(kk:Int):=⟨k.toNat,by omega⟩;have hkl:kk<all.length:=by omega
   obtain⟨b0,off,rfl,hb0,hcs⟩:=HRK3.out.2.2 (by omega);obtain⟨t0,t1,t2,t3⟩:=hcs kk hkl;have HEQ2:=Hd (show exprO N s=if f=0 then if(all[kk]?.getD default).k=6 then(x,(s.size:Int),0) else(noneX,((all[kk]?.getD default).a:Int),2) else(noneX,((all[kk]?.getD default).a:Int),f) from HEQ.out);generalize (all[kk]?.getD default).k=tkk at *;have HAP:=Hd (tok_apart HRK3.out (by omega) HR3.out);clear hcs t1 t2 HEQ;generalize ((all[kk]?.getD default).a:Int)=ta at *;have hmx:=HRK3.out.2.1;have hk0:(0:Int)≤(kk:Int):=by omega
   have hk1:(kk:Int)<(all.length:Int):=by omega
   generalize all.length=n at *
   by_cases hf:f=0
   · subst hf
     by_cases hk:tkk=6
     · subst hk
       go_wp2_with (first | (refine wpList_load_row rfl _ _ rfl (eb) rfl _ _ _ _ (HE3.out) Tryz.underlying26 rfl ex_info ?_) | (refine wpList_store_row rfl _ _ _ rfl (w.heap.size) _ rfl rfl _ _ (HR3.out) ex_info rfl (by simp[exA,Value.oneCell']) ?_))
       refine bodyPost_ret (res_ex3 (p:=2) (u:=3) (v:=4) rfl _ _ (w.heap.size) rfl (HR3.out.set (y:=x) (A2:=A1) (ca2:=ca) (B2:=B1) (cb2:=cb))) rfl ⟨below_setRow_ HB3.out (Nat.le_refl _) _,?_⟩;rw[show exprO N s=(x,(s.size:Int),0) from HEQ2.out.trans (by simp)];exact⟨_,_,_,_,rfl,rdX_of_blM (rdX_blM HRD3.out (by rw[setRow_size];exact Nat.le_refl _) (fun k hk _=>setRow_other _ _ _ _ (fun e=>hk ⟨by rw[e];exact HGL.out,by rw[e];exact HAP.out⟩)))⟩
     · have hk2:(tkk != 6)=true:=by simpa using hk
       have HKK:=Hd hk;clear hk;obtain⟨d0,d1,d2,d3,d4,d5⟩:=HR3.out.cells;have f0:=HR3.out.fz 0;have f1:=HR3.out.fz 1;have f2:=HR3.out.fz 2;have f3:=HR3.out.fz 3;have f4:=HR3.out.fz 4;have f5:=HR3.out.fz 5;have hl:=HR3.out.lt;have hap:=HAP.out;have hap2:b0≠w.heap.size:=Ne.symm hap;unfold noneX at d0 d1 d2 d3 d4 d5;simp only[Ex.k,Ex.n,Ex.s,Ex.op,Ex.arms,Ex.subs,List.length_nil] at d0 d1 d2 d3 d4 d5
       go_upto_region 8 with(fail)
       go_region
       have hsx:=six_set HR3.out noneX none 0 none 0;unfold noneX at hsx;simp only[Ex.k,Ex.n,Ex.s,Ex.op,Ex.arms,Ex.subs,List.length_nil] at hsx;have hsy:(⟨#[]⟩:ByteArray)=ByteArray.empty:=rfl;simp only[hsy] at *;rw[hsx];clear hsx d0 d1 d2 d3 d4 d5 f0 f1 f2 f3 f4 f5;have HR4:=Hd (show RowX (w3.setRow w.heap.size (exA noneX none 0 none 0)).drew w.heap.size noneX none 0 none 0 from HR3.out.set);have HB4:=Hd (show Below w.heap.size w (w3.setRow w.heap.size (exA noneX none 0 none 0)).drew from(below_setRow_ HB3.out (Nat.le_refl _) _).drew);unfold noneX at HR4 HB4;generalize (w3.setRow w.heap.size _).drew=w4 at *
       go_wp2_with fail
       refine bodyPost_ret (res_ex3 (p:=2) (u:=3) (v:=4) rfl _ _ (w.heap.size) rfl HR4.out) rfl ⟨HB4.out,?_⟩;rw[show exprO N s=(noneX,ta,2) from HEQ2.out.trans (by simp[HKK.out])];exact⟨none,0,none,0,rfl,rdX_none _⟩
   · have hf2:(f==0)=false:=by simpa using hf
     have HFF:=Hd hf;clear hf;obtain⟨d0,d1,d2,d3,d4,d5⟩:=HR3.out.cells;have f0:=HR3.out.fz 0;have f1:=HR3.out.fz 1;have f2:=HR3.out.fz 2;have f3:=HR3.out.fz 3;have f4:=HR3.out.fz 4;have f5:=HR3.out.fz 5;have hl:=HR3.out.lt;have hap:=HAP.out;have hap2:b0≠w.heap.size:=Ne.symm hap;unfold noneX at d0 d1 d2 d3 d4 d5;simp only[Ex.k,Ex.n,Ex.s,Ex.op,Ex.arms,Ex.subs,List.length_nil] at d0 d1 d2 d3 d4 d5
     go_upto_region 6 with(fail)
     go_region
     have hsx:=six_set HR3.out noneX none 0 none 0;unfold noneX at hsx;simp only[Ex.k,Ex.n,Ex.s,Ex.op,Ex.arms,Ex.subs,List.length_nil] at hsx;have hsy:(⟨#[]⟩:ByteArray)=ByteArray.empty:=rfl;simp only[hsy] at *;rw[hsx];clear hsx d0 d1 d2 d3 d4 d5 f0 f1 f2 f3 f4 f5;have HR4:=Hd (show RowX (w3.setRow w.heap.size (exA noneX none 0 none 0)).drew w.heap.size noneX none 0 none 0 from HR3.out.set);have HB4:=Hd (show Below w.heap.size w (w3.setRow w.heap.size (exA noneX none 0 none 0)).drew from(below_setRow_ HB3.out (Nat.le_refl _) _).drew);unfold noneX at HR4 HB4;generalize (w3.setRow w.heap.size _).drew=w4 at *
     go_wp2_with fail
     refine bodyPost_ret (res_ex3 (p:=2) (u:=3) (v:=4) rfl _ _ (w.heap.size) rfl HR4.out) rfl ⟨HB4.out,?_⟩;rw[show exprO N s=(noneX,ta,f) from HEQ2.out.trans (by simp[HFF.out])];exact⟨none,0,none,0,rfl,rdX_none _⟩
end
end
section
open Go.RowKit Go.Sort
theorem toks_good(s:ByteArray):(∀ t∈toksL s,TkOK t∧t.s.length≤s.size+6)∧(toksL s).length≤s.size+1∧EndR (toksL s):=by
 obtain⟨h1,h2⟩:=lex_good s.size 0 s.data.toList (Nat.le_refl _);have h3:s.data.toList.length=s.size:=rfl;refine⟨fun t ht=>?_,by simp only[toksL,List.length_append,List.length_cons,List.length_nil];omega,⟨_,_,rfl,rfl⟩⟩;rcases List.mem_append.1 ht with ht | ht
 · obtain⟨g1,g2,_⟩:=h1 t ht;exact⟨g1,by omega⟩
 · rw[List.mem_singleton.1 ht];exact⟨⟨fun e=>by simp at e,fun e=>by simp at e⟩,Nat.zero_le _⟩
theorem toks_te(s:ByteArray):TE (s.size+6) (toksL s):=⟨fun t ht=>((toks_good s).1 t ht).2,(toks_good s).2.2⟩
theorem endR_pos{r:List Tk}(h:EndR r):1≤r.length:=by
 obtain⟨q,z,rfl,_⟩:=h
 simp
theorem end_begins{all:List Tk}(h:EndR all):beginsB all 0=true:=by
 have hp:=endR_pos h;obtain⟨q,z,rfl,hz⟩:=h
 simp[beginsB,hz]
theorem partO_range{N:Nat}{all:List Tk}{M:Nat}(hM:5≤M)(h:TE M all)(hN:all.length≤N):0≤(partO N all 0).2.1∧(partO N all 0).2.1<(all.length:Int):=by
 have hp:=endR_pos h.2;have hb:=end_begins h.2
 cases hq:(psN N).ar (all.drop (0:Int).toNat) with
 | bad q=>
  rw[partO_bad hb hq];have:=endR_pos (read_bad hM (show TE M (all.drop (0:Int).toNat) from h) hN hq)
  show(0:Int)≤((all.length-q.length:Nat):Int)∧((all.length-q.length:Nat):Int)<(all.length:Int)
  omega
 | ok x r1=>
  have he:EndR r1:=by
   obtain⟨k,hk⟩:=machine_ends (r:=all) (n:=N) h.2 hN;obtain⟨o,ho⟩:=ends_some hk;have hq2:(psN N).ar all=.ok x r1:=hq;rw[hq2] at ho;obtain⟨_,_,he,_⟩:=ho;exact he
  have:=endR_pos he
  by_cases hx:60<sizeX x∨12<depthX x
  · rw[partO_long hb hq hx]
    show(0:Int)≤0∧(0:Int)<(all.length:Int)
    omega
  · cases hr:rightX x with
    | false=>
     rw[partO_arg hb hq hx hr]
     show(0:Int)≤0∧(0:Int)<(all.length:Int)
     omega
    | true=>
     rw[partO_ok hb hq hx hr]
     show(0:Int)≤((all.length-r1.length:Nat):Int)∧((all.length-r1.length:Nat):Int)<(all.length:Int)
     omega
theorem paExpr{w:World}(N:Nat)(s:ByteArray)(hs:s.size≤9223372036854775807)(hv:Vars w)(hN:6001≤N)(hsh:s.size≤6000→∀ x r1,(psN N).ar (toksL s)=.ok x r1→sizeX x≤60→∀ p∈partsX x,ShortP p):
 Calls Tryz.prog 7 #[.string s] w fun e w'=>Below w.heap.size w w'∧ExprV (exprO N s) e w':=by
 by_cases hl:6000<s.size
 · exact expr_long N s hs hl
 · have hl':s.size≤6000:=by omega
   cases hp:(lexL 0 s.data.toList).2 with
   | some p=>exact expr_bad N s hl' hv hp
   | none=>
    obtain⟨h1,h2,h3⟩:=toks_good s;have ht:∀ t∈toksL s,TkOK t:=fun t ht=>(h1 t ht).1;have hlen:(toksL s).length≤6001:=by omega
    have hr:=partO_range (N:=N) (by omega) (toks_te s) (by omega);exact expr_read N s hl' hv hp hN (hsh hl') ht hlen hr
theorem short_text{N:Nat}{s:ByteArray}(hs:s.size≤900)(hN:901≤N):∀ x r1,(psN N).ar (toksL s)=.ok x r1→sizeX x≤60→∀ p∈partsX x,ShortP p:=fun x r1 h hz=>
 read_short (M:=s.size+6) (by omega) (by omega) (toks_te s) (by have:=(toks_good s).2.1;omega) h hz
end
end Go.Proofs.YtokiaaapgkdpmaaGreatDoor
