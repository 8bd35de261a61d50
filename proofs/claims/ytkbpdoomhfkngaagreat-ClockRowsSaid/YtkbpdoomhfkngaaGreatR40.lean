/- Parts of the proof: ClP, ClV. Conditions: each theorem's own. -/
import Derived.Test.YtkbpdoomhfkngaaGreatR39
namespace Go.Proofs.YtkbpdoomhfkngaaGreat
set_option linter.unusedVariables false
set_option linter.unusedSimpArgs false
set_option maxRecDepth 100000
set_option maxHeartbeats 40000000
section
open Go.RowKit Go.Sort Go.BigFrame
theorem clRowNo(p:Pg) (E:Option Addr) (ec:Nat) (N:Option Addr) (nc:Nat) (i:Int) (s:ByteArray) (w:World) (hi:i<0∨(p.ns.length:Int)≤i):
 Calls Tryz.prog 10 #[.agg (pgA p E ec N nc),.int .i64 i,.string s] w (RowPostP w none):=by
 have HF:=Hd fun w0 hw=>cl_box (w:=w) (w1:=w0) (cs:=pgA p E ec N nc) (T:=25) hw;unfold pgA at HF ⊢;generalize p.ns.length=pn at *
 go_enter Tryz.func10,Tryz.ntmps10
 go_upto_region 1 with(fail)
 generalize hw0:w.alloc _=w0;obtain⟨hb0,hsz,hp⟩:=HF.out w0 hw0;have HB0:=Hd hb0;have p1:=hp w0 (Below.refl _ _) 1;simp only [Ya,Yb,Yc] at p1;clear hw0 hb0 hsz hp HF
 by_cases h0:i<0
 · have hd:decide (i<0)=true:=decide_eq_true h0
   go_wp2_with fail
   refine bodyPost_ret (results_tmp2 rfl _ _ _) rfl ?_;exact⟨HB0.out,rfl⟩
 · have hd:decide (i<0)=false:=decide_eq_false h0;have hle:(pn:Int)≤i:=by omega
   have hd2:decide ((pn:Int)≤i)=true:=decide_eq_true hle
   go_wp2_with fail
   refine bodyPost_ret (results_tmp2 rfl _ _ _) rfl ?_;exact⟨HB0.out,rfl⟩
theorem clRowIn(p:Pg) (E:Option Addr) (ec:Nat) (N:Option Addr) (nc:Nat) (i:Nat) (s:ByteArray) (w:World) (h:rdP w p E N) (hi:i<p.ns.length):
 Calls Tryz.prog 10 #[.agg (pgA p E ec N nc),.int .i64 i,.string s] w (RowPostP w (rowC p.es (ndAt p i) s)):=by
 have HF:=Hd fun w0 hw=>cl_box (w:=w) (w1:=w0) (cs:=pgA p E ec N nc) (T:=25) hw;obtain⟨nb,no,A1,c1,A2,c2,A3,c3,A4,c4,hN,hnb,hrd,d0,d1,d2,d3,d4⟩:=nd_atC h.2 hi;have hnd:p.ns[i]?.getD default=ndAt p i:=rfl;rw [hnd] at hrd d0 d1 d2 d3 d4;have HRW:=Hd fun w1 (hb:Below w.heap.size w w1)=>clRow p.es (ndAt p i) ⟨E,ec,A1,c1,A2,c2,A3,c3,A4,c4⟩ s w1 ⟨(h.below hb).1,hrd.below hb⟩;have hmx:=RdS.max h.2;clear h hnd hrd;subst hN;unfold pgA at HF ⊢;unfold RowPostP kmA at HRW;unfold RowPostP
 dsimp only at HRW
 generalize rowC p.es (ndAt p i) s=orow at *;generalize p.es.length=pe at *;generalize p.ns.length=pn at *;generalize ndAt p i=nd at *
 go_enter Tryz.func10,Tryz.ntmps10
 go_upto_region 1 with(fail)
 generalize hw0:w.alloc _=w0;obtain⟨hb0,hsz,hp⟩:=HF.out w0 hw0;have HB0:=Hd hb0;have p0:=hp w0 (Below.refl _ _) 0;have p1:=hp w0 (Below.refl _ _) 1;simp only [Ya,Yb,Yc] at p0 p1;have d0:=(hb0.cell (p:=⟨nb,no+i*5,none⟩) hnb).trans d0;have d1:=(hb0.cell (p:=⟨nb,no+i*5+1,none⟩) hnb).trans d1;have d2:=(hb0.cell (p:=⟨nb,no+i*5+2,none⟩) hnb).trans d2;have d3:=(hb0.cell (p:=⟨nb,no+i*5+3,none⟩) hnb).trans d3;have d4:=(hb0.cell (p:=⟨nb,no+i*5+4,none⟩) hnb).trans d4;have HRX:=Hd fun W (hb:Below w0.heap.size w0 W)=>HRW.out W (below_nextC HB0.out hb);clear hw0 hb0 hsz hp HF HRW;have hd:decide ((i:Int)<0)=false:=decide_eq_false (by omega);have hd2:decide ((pn:Int)≤(i:Int))=false:=decide_eq_false (by omega);have hii:(i:Int)<(pn:Int):=by omega
 cases orow with
 | none=>
  have HRN:=Hd fun W (hb:Below w0.heap.size w0 W)=>(HRX.out W hb).mono fun e w' (h:_∧e=_)=>(show e=.returned (.tuple #[.slice none 0 0,.bool false])∧Below W.heap.size W w' from⟨h.2,h.1⟩)
  go_upto_region 3 with(fail)
  refine wp_region_held_drew (S:=fun Wz=>Below w0.heap.size w0 Wz) (by kernel_rfl) ?_ (fun hHeld=>?_)
  · exact(Below.refl w0.heap.size w0).drew
  refine wpAnyH_take (i:=0) (oi:=?oi1) (v:=?v1) ?h1x1 (by kernel_rfl) ?h3x1 (by kernel_rfl) ?h5x1 (Or.inl ⟨?h6x1,?h7x1⟩) hHeld ?h8x1
  case h1x1=>
   simp only [Ya,Yb,Yc];rfl
  case h3x1=>kernel_rfl
  case h5x1=>exact fun _ _ _ h=>h
  case h6x1=>rfl
  case h7x1=>
   intro Wz hSW;have p0:=(hSW.cell (World.block_lt_of_cell? _ _ p0)).trans p0;have p1:=(hSW.cell (World.block_lt_of_cell? _ _ p1)).trans p1;have d0:=(hSW.cell (World.block_lt_of_cell? _ _ d0)).trans d0;have d1:=(hSW.cell (World.block_lt_of_cell? _ _ d1)).trans d1;have d2:=(hSW.cell (World.block_lt_of_cell? _ _ d2)).trans d2;have d3:=(hSW.cell (World.block_lt_of_cell? _ _ d3)).trans d3;have d4:=(hSW.cell (World.block_lt_of_cell? _ _ d4)).trans d4
   first | (go_simp;done) | (go_simp;with_reducible rfl)
  (try simp only [Act.put,Yd,Ye,Yf])
  refine wpAnyH_take (i:=1) (oi:=?oi2) (v:=?v2) ?h1x2 (by kernel_rfl) ?h3x2 (by kernel_rfl) ?h5x2 (Or.inl ⟨?h6x2,?h7x2⟩) hHeld ?h8x2
  case h1x2=>
   simp only [Ya,Yb,Yc];rfl
  case h3x2=>kernel_rfl
  case h5x2=>exact fun _ _ _ h=>h
  case h6x2=>rfl
  case h7x2=>
   intro Wz hSW;have p0:=(hSW.cell (World.block_lt_of_cell? _ _ p0)).trans p0;have p1:=(hSW.cell (World.block_lt_of_cell? _ _ p1)).trans p1;have d0:=(hSW.cell (World.block_lt_of_cell? _ _ d0)).trans d0;have d1:=(hSW.cell (World.block_lt_of_cell? _ _ d1)).trans d1;have d2:=(hSW.cell (World.block_lt_of_cell? _ _ d2)).trans d2;have d3:=(hSW.cell (World.block_lt_of_cell? _ _ d3)).trans d3;have d4:=(hSW.cell (World.block_lt_of_cell? _ _ d4)).trans d4
   first | (go_simp;done) | (go_simp;with_reducible rfl)
  (try simp only [Act.put,Yd,Ye,Yf])
  refine wpAnyH_take (i:=2) (oi:=?oi3) (v:=?v3) ?h1x3 (by kernel_rfl) ?h3x3 (by kernel_rfl) ?h5x3 (Or.inl ⟨?h6x3,?h7x3⟩) hHeld ?h8x3
  case h1x3=>
   simp only [Ya,Yb,Yc];rfl
  case h3x3=>kernel_rfl
  case h5x3=>exact fun _ _ _ h=>h
  case h6x3=>rfl
  case h7x3=>
   intro Wz hSW;have p0:=(hSW.cell (World.block_lt_of_cell? _ _ p0)).trans p0;have p1:=(hSW.cell (World.block_lt_of_cell? _ _ p1)).trans p1;have d0:=(hSW.cell (World.block_lt_of_cell? _ _ d0)).trans d0;have d1:=(hSW.cell (World.block_lt_of_cell? _ _ d1)).trans d1;have d2:=(hSW.cell (World.block_lt_of_cell? _ _ d2)).trans d2;have d3:=(hSW.cell (World.block_lt_of_cell? _ _ d3)).trans d3;have d4:=(hSW.cell (World.block_lt_of_cell? _ _ d4)).trans d4
   first | (go_simp;done) | (go_simp;with_reducible rfl)
  (try simp only [Act.put,Yd,Ye,Yf])
  refine wpAnyH_take (i:=3) (oi:=?oi4) (v:=?v4) ?h1x4 (by kernel_rfl) ?h3x4 (by kernel_rfl) ?h5x4 (Or.inl ⟨?h6x4,?h7x4⟩) hHeld ?h8x4
  case h1x4=>
   simp only [Ya,Yb,Yc];rfl
  case h3x4=>kernel_rfl
  case h5x4=>exact fun _ _ _ h=>h
  case h6x4=>rfl
  case h7x4=>
   intro Wz hSW;have p0:=(hSW.cell (World.block_lt_of_cell? _ _ p0)).trans p0;have p1:=(hSW.cell (World.block_lt_of_cell? _ _ p1)).trans p1;have d0:=(hSW.cell (World.block_lt_of_cell? _ _ d0)).trans d0;have d1:=(hSW.cell (World.block_lt_of_cell? _ _ d1)).trans d1;have d2:=(hSW.cell (World.block_lt_of_cell? _ _ d2)).trans d2;have d3:=(hSW.cell (World.block_lt_of_cell? _ _ d3)).trans d3;have d4:=(hSW.cell (World.block_lt_of_cell? _ _ d4)).trans d4
   first | (go_simp;done) | (go_simp;with_reducible rfl)
  (try simp only [Act.put,Yd,Ye,Yf])
  refine wpAnyH_take (i:=4) (oi:=?oi5) (v:=?v5) ?h1x5 (by kernel_rfl) ?h3x5 (by kernel_rfl) ?h5x5 (Or.inl ⟨?h6x5,?h7x5⟩) hHeld ?h8x5
  case h1x5=>
   simp only [Ya,Yb,Yc];rfl
  case h3x5=>kernel_rfl
  case h5x5=>exact fun _ _ _ h=>h
  case h6x5=>rfl
  case h7x5=>
   intro Wz hSW;have p0:=(hSW.cell (World.block_lt_of_cell? _ _ p0)).trans p0;have p1:=(hSW.cell (World.block_lt_of_cell? _ _ p1)).trans p1;have d0:=(hSW.cell (World.block_lt_of_cell? _ _ d0)).trans d0;have d1:=(hSW.cell (World.block_lt_of_cell? _ _ d1)).trans d1;have d2:=(hSW.cell (World.block_lt_of_cell? _ _ d2)).trans d2;have d3:=(hSW.cell (World.block_lt_of_cell? _ _ d3)).trans d3;have d4:=(hSW.cell (World.block_lt_of_cell? _ _ d4)).trans d4
   first | (go_simp;done) | (go_simp;with_reducible rfl)
  (try simp only [Act.put,Yd,Ye,Yf])
  refine wpAnyH_take (i:=5) (oi:=?oi6) (v:=?v6) ?h1x6 (by kernel_rfl) ?h3x6 (by kernel_rfl) ?h5x6 (Or.inl ⟨?h6x6,?h7x6⟩) hHeld ?h8x6
  case h1x6=>
   simp only [Ya,Yb,Yc];rfl
  case h3x6=>kernel_rfl
  case h5x6=>exact fun _ _ _ h=>h
  case h6x6=>rfl
  case h7x6=>
   intro Wz hSW;have p0:=(hSW.cell (World.block_lt_of_cell? _ _ p0)).trans p0;have p1:=(hSW.cell (World.block_lt_of_cell? _ _ p1)).trans p1;have d0:=(hSW.cell (World.block_lt_of_cell? _ _ d0)).trans d0;have d1:=(hSW.cell (World.block_lt_of_cell? _ _ d1)).trans d1;have d2:=(hSW.cell (World.block_lt_of_cell? _ _ d2)).trans d2;have d3:=(hSW.cell (World.block_lt_of_cell? _ _ d3)).trans d3;have d4:=(hSW.cell (World.block_lt_of_cell? _ _ d4)).trans d4
   first | (go_simp;done) | (go_simp;with_reducible rfl)
  (try simp only [Act.put,Yd,Ye,Yf])
  refine wpAnyH_take (i:=6) (oi:=?oi7) (v:=?v7) ?h1x7 (by kernel_rfl) ?h3x7 (by kernel_rfl) ?h5x7 (Or.inl ⟨?h6x7,?h7x7⟩) hHeld ?h8x7
  case h1x7=>
   simp only [Ya,Yb,Yc];rfl
  case h3x7=>kernel_rfl
  case h5x7=>exact fun _ _ _ h=>h
  case h6x7=>rfl
  case h7x7=>
   intro Wz hSW;have p0:=(hSW.cell (World.block_lt_of_cell? _ _ p0)).trans p0;have p1:=(hSW.cell (World.block_lt_of_cell? _ _ p1)).trans p1;have d0:=(hSW.cell (World.block_lt_of_cell? _ _ d0)).trans d0;have d1:=(hSW.cell (World.block_lt_of_cell? _ _ d1)).trans d1;have d2:=(hSW.cell (World.block_lt_of_cell? _ _ d2)).trans d2;have d3:=(hSW.cell (World.block_lt_of_cell? _ _ d3)).trans d3;have d4:=(hSW.cell (World.block_lt_of_cell? _ _ d4)).trans d4
   first | (go_simp;done) | (go_simp;with_reducible rfl)
  (try simp only [Act.put,Yd,Ye,Yf])
  refine wpAnyH_take (i:=7) (oi:=?oi8) (v:=?v8) ?h1x8 (by kernel_rfl) ?h3x8 (by kernel_rfl) ?h5x8 (Or.inl ⟨?h6x8,?h7x8⟩) hHeld ?h8x8
  case h1x8=>
   simp only [Ya,Yb,Yc];rfl
  case h3x8=>kernel_rfl
  case h5x8=>exact fun _ _ _ h=>h
  case h6x8=>rfl
  case h7x8=>
   intro Wz hSW;have p0:=(hSW.cell (World.block_lt_of_cell? _ _ p0)).trans p0;have p1:=(hSW.cell (World.block_lt_of_cell? _ _ p1)).trans p1;have d0:=(hSW.cell (World.block_lt_of_cell? _ _ d0)).trans d0;have d1:=(hSW.cell (World.block_lt_of_cell? _ _ d1)).trans d1;have d2:=(hSW.cell (World.block_lt_of_cell? _ _ d2)).trans d2;have d3:=(hSW.cell (World.block_lt_of_cell? _ _ d3)).trans d3;have d4:=(hSW.cell (World.block_lt_of_cell? _ _ d4)).trans d4
   first | (go_simp;done) | (go_simp;with_reducible rfl)
  (try simp only [Act.put,Yd,Ye,Yf])
  refine wpAnyH_take (i:=8) (oi:=?oi9) (v:=?v9) ?h1x9 (by kernel_rfl) ?h3x9 (by kernel_rfl) ?h5x9 (Or.inl ⟨?h6x9,?h7x9⟩) hHeld ?h8x9
  case h1x9=>
   simp only [Ya,Yb,Yc];rfl
  case h3x9=>kernel_rfl
  case h5x9=>exact fun _ _ _ h=>h
  case h6x9=>rfl
  case h7x9=>
   intro Wz hSW;have p0:=(hSW.cell (World.block_lt_of_cell? _ _ p0)).trans p0;have p1:=(hSW.cell (World.block_lt_of_cell? _ _ p1)).trans p1;have d0:=(hSW.cell (World.block_lt_of_cell? _ _ d0)).trans d0;have d1:=(hSW.cell (World.block_lt_of_cell? _ _ d1)).trans d1;have d2:=(hSW.cell (World.block_lt_of_cell? _ _ d2)).trans d2;have d3:=(hSW.cell (World.block_lt_of_cell? _ _ d3)).trans d3;have d4:=(hSW.cell (World.block_lt_of_cell? _ _ d4)).trans d4
   first | (go_simp;done) | (go_simp;with_reducible rfl)
  (try simp only [Act.put,Yd,Ye,Yf])
  refine wpAnyH_ready (rs:=[9]) (by kernel_rfl) (by simp) ?_;refine AllReadyH.cons (by rfl) (fun K hK=>?_) AllReadyH.nil
  go_simp
  (go_at_call 24;(with_reducible refine(HRN.out _ ?hx).mono ?_);(case hx=>exact hHeld);rintro e Wn ⟨rfl,hq⟩;have HBn:=Hd (hHeld.trans (hq.mono hHeld.size));clear hq)
  go_wp2_with fail
  refine hK.out _ _ ?_ (fun hHeld=>?_)
  · exact HBn.out
  clear hK K
  (try simp only [Act.put,Yd,Ye,Yf])
  refine wpAnyH_take (i:=10) (oi:=?oi10) (v:=?v10) ?h1x10 (by kernel_rfl) ?h3x10 (by kernel_rfl) ?h5x10 (Or.inl ⟨?h6x10,?h7x10⟩) hHeld ?h8x10
  case h1x10=>
   simp only [Ya,Yb,Yc];rfl
  case h3x10=>kernel_rfl
  case h5x10=>exact fun _ _ _ h=>h
  case h6x10=>rfl
  case h7x10=>
   intro Wz hSW;have p0:=(hSW.cell (World.block_lt_of_cell? _ _ p0)).trans p0;have p1:=(hSW.cell (World.block_lt_of_cell? _ _ p1)).trans p1;have d0:=(hSW.cell (World.block_lt_of_cell? _ _ d0)).trans d0;have d1:=(hSW.cell (World.block_lt_of_cell? _ _ d1)).trans d1;have d2:=(hSW.cell (World.block_lt_of_cell? _ _ d2)).trans d2;have d3:=(hSW.cell (World.block_lt_of_cell? _ _ d3)).trans d3;have d4:=(hSW.cell (World.block_lt_of_cell? _ _ d4)).trans d4
   first | (go_simp;done) | (go_simp;with_reducible rfl)
  (try simp only [Act.put,Yd,Ye,Yf])
  refine wpAnyH_take (i:=11) (oi:=?oi11) (v:=?v11) ?h1x11 (by kernel_rfl) ?h3x11 (by kernel_rfl) ?h5x11 (Or.inl ⟨?h6x11,?h7x11⟩) hHeld ?h8x11
  case h1x11=>
   simp only [Ya,Yb,Yc];rfl
  case h3x11=>kernel_rfl
  case h5x11=>exact fun _ _ _ h=>h
  case h6x11=>rfl
  case h7x11=>
   intro Wz hSW;have p0:=(hSW.cell (World.block_lt_of_cell? _ _ p0)).trans p0;have p1:=(hSW.cell (World.block_lt_of_cell? _ _ p1)).trans p1;have d0:=(hSW.cell (World.block_lt_of_cell? _ _ d0)).trans d0;have d1:=(hSW.cell (World.block_lt_of_cell? _ _ d1)).trans d1;have d2:=(hSW.cell (World.block_lt_of_cell? _ _ d2)).trans d2;have d3:=(hSW.cell (World.block_lt_of_cell? _ _ d3)).trans d3;have d4:=(hSW.cell (World.block_lt_of_cell? _ _ d4)).trans d4
   first | (go_simp;done) | (go_simp;with_reducible rfl)
  (try simp only [Act.put,Yd,Ye,Yf])
  refine wpAnyH_take (i:=12) (oi:=?oi12) (v:=?v12) ?h1x12 (by kernel_rfl) ?h3x12 (by kernel_rfl) ?h5x12 (Or.inl ⟨?h6x12,?h7x12⟩) hHeld ?h8x12
  case h1x12=>
   simp only [Ya,Yb,Yc];rfl
  case h3x12=>kernel_rfl
  case h5x12=>exact fun _ _ _ h=>h
  case h6x12=>rfl
  case h7x12=>
   intro Wz hSW;have p0:=(hSW.cell (World.block_lt_of_cell? _ _ p0)).trans p0;have p1:=(hSW.cell (World.block_lt_of_cell? _ _ p1)).trans p1;have d0:=(hSW.cell (World.block_lt_of_cell? _ _ d0)).trans d0;have d1:=(hSW.cell (World.block_lt_of_cell? _ _ d1)).trans d1;have d2:=(hSW.cell (World.block_lt_of_cell? _ _ d2)).trans d2;have d3:=(hSW.cell (World.block_lt_of_cell? _ _ d3)).trans d3;have d4:=(hSW.cell (World.block_lt_of_cell? _ _ d4)).trans d4
   first | (go_simp;done) | (go_simp;with_reducible rfl)
  (try simp only [Act.put,Yd,Ye,Yf])
  refine wpAnyH_take (i:=13) (oi:=?oi13) (v:=?v13) ?h1x13 (by kernel_rfl) ?h3x13 (by kernel_rfl) ?h5x13 (Or.inl ⟨?h6x13,?h7x13⟩) hHeld ?h8x13
  case h1x13=>
   simp only [Ya,Yb,Yc];rfl
  case h3x13=>kernel_rfl
  case h5x13=>exact fun _ _ _ h=>h
  case h6x13=>rfl
  case h7x13=>
   intro Wz hSW;have p0:=(hSW.cell (World.block_lt_of_cell? _ _ p0)).trans p0;have p1:=(hSW.cell (World.block_lt_of_cell? _ _ p1)).trans p1;have d0:=(hSW.cell (World.block_lt_of_cell? _ _ d0)).trans d0;have d1:=(hSW.cell (World.block_lt_of_cell? _ _ d1)).trans d1;have d2:=(hSW.cell (World.block_lt_of_cell? _ _ d2)).trans d2;have d3:=(hSW.cell (World.block_lt_of_cell? _ _ d3)).trans d3;have d4:=(hSW.cell (World.block_lt_of_cell? _ _ d4)).trans d4
   first | (go_simp;done) | (go_simp;with_reducible rfl)
  (try simp only [Act.put,Yd,Ye,Yf])
  refine wpAnyH_done (by kernel_rfl) ?_ _
  go_wp2_with fail
  refine bodyPost_ret (results_tmp2 rfl _ _ _) rfl ?_;exact⟨below_nextC HB0.out HBn.out,rfl⟩
 | some row=>
  have HRN:=Hd fun W (hb:Below w0.heap.size w0 W)=>(HRX.out W hb).mono fun e w' (h:_∧_)=>(show(∃ A c,e=.returned (.tuple #[.slice A row.length c,.bool true])∧RdC w' A row.length row∧row.length≤c)∧Below W.heap.size W w' from⟨h.2,h.1⟩)
  go_upto_region 3 with(fail)
  refine wp_region_held_drew (S:=fun Wz=>Below w0.heap.size w0 Wz) (by kernel_rfl) ?_ (fun hHeld=>?_)
  · exact(Below.refl w0.heap.size w0).drew
  refine wpAnyH_take (i:=0) (oi:=?oi14) (v:=?v14) ?h1x14 (by kernel_rfl) ?h3x14 (by kernel_rfl) ?h5x14 (Or.inl ⟨?h6x14,?h7x14⟩) hHeld ?h8x14
  case h1x14=>
   simp only [Ya,Yb,Yc];rfl
  case h3x14=>kernel_rfl
  case h5x14=>exact fun _ _ _ h=>h
  case h6x14=>rfl
  case h7x14=>
   intro Wz hSW;have p0:=(hSW.cell (World.block_lt_of_cell? _ _ p0)).trans p0;have p1:=(hSW.cell (World.block_lt_of_cell? _ _ p1)).trans p1;have d0:=(hSW.cell (World.block_lt_of_cell? _ _ d0)).trans d0;have d1:=(hSW.cell (World.block_lt_of_cell? _ _ d1)).trans d1;have d2:=(hSW.cell (World.block_lt_of_cell? _ _ d2)).trans d2;have d3:=(hSW.cell (World.block_lt_of_cell? _ _ d3)).trans d3;have d4:=(hSW.cell (World.block_lt_of_cell? _ _ d4)).trans d4
   first | (go_simp;done) | (go_simp;with_reducible rfl)
  (try simp only [Act.put,Yd,Ye,Yf])
  refine wpAnyH_take (i:=1) (oi:=?oi15) (v:=?v15) ?h1x15 (by kernel_rfl) ?h3x15 (by kernel_rfl) ?h5x15 (Or.inl ⟨?h6x15,?h7x15⟩) hHeld ?h8x15
  case h1x15=>
   simp only [Ya,Yb,Yc];rfl
  case h3x15=>kernel_rfl
  case h5x15=>exact fun _ _ _ h=>h
  case h6x15=>rfl
  case h7x15=>
   intro Wz hSW;have p0:=(hSW.cell (World.block_lt_of_cell? _ _ p0)).trans p0;have p1:=(hSW.cell (World.block_lt_of_cell? _ _ p1)).trans p1;have d0:=(hSW.cell (World.block_lt_of_cell? _ _ d0)).trans d0;have d1:=(hSW.cell (World.block_lt_of_cell? _ _ d1)).trans d1;have d2:=(hSW.cell (World.block_lt_of_cell? _ _ d2)).trans d2;have d3:=(hSW.cell (World.block_lt_of_cell? _ _ d3)).trans d3;have d4:=(hSW.cell (World.block_lt_of_cell? _ _ d4)).trans d4
   first | (go_simp;done) | (go_simp;with_reducible rfl)
  (try simp only [Act.put,Yd,Ye,Yf])
  refine wpAnyH_take (i:=2) (oi:=?oi16) (v:=?v16) ?h1x16 (by kernel_rfl) ?h3x16 (by kernel_rfl) ?h5x16 (Or.inl ⟨?h6x16,?h7x16⟩) hHeld ?h8x16
  case h1x16=>
   simp only [Ya,Yb,Yc];rfl
  case h3x16=>kernel_rfl
  case h5x16=>exact fun _ _ _ h=>h
  case h6x16=>rfl
  case h7x16=>
   intro Wz hSW;have p0:=(hSW.cell (World.block_lt_of_cell? _ _ p0)).trans p0;have p1:=(hSW.cell (World.block_lt_of_cell? _ _ p1)).trans p1;have d0:=(hSW.cell (World.block_lt_of_cell? _ _ d0)).trans d0;have d1:=(hSW.cell (World.block_lt_of_cell? _ _ d1)).trans d1;have d2:=(hSW.cell (World.block_lt_of_cell? _ _ d2)).trans d2;have d3:=(hSW.cell (World.block_lt_of_cell? _ _ d3)).trans d3;have d4:=(hSW.cell (World.block_lt_of_cell? _ _ d4)).trans d4
   first | (go_simp;done) | (go_simp;with_reducible rfl)
  (try simp only [Act.put,Yd,Ye,Yf])
  refine wpAnyH_take (i:=3) (oi:=?oi17) (v:=?v17) ?h1x17 (by kernel_rfl) ?h3x17 (by kernel_rfl) ?h5x17 (Or.inl ⟨?h6x17,?h7x17⟩) hHeld ?h8x17
  case h1x17=>
   simp only [Ya,Yb,Yc];rfl
  case h3x17=>kernel_rfl
  case h5x17=>exact fun _ _ _ h=>h
  case h6x17=>rfl
  case h7x17=>
   intro Wz hSW;have p0:=(hSW.cell (World.block_lt_of_cell? _ _ p0)).trans p0;have p1:=(hSW.cell (World.block_lt_of_cell? _ _ p1)).trans p1;have d0:=(hSW.cell (World.block_lt_of_cell? _ _ d0)).trans d0;have d1:=(hSW.cell (World.block_lt_of_cell? _ _ d1)).trans d1;have d2:=(hSW.cell (World.block_lt_of_cell? _ _ d2)).trans d2;have d3:=(hSW.cell (World.block_lt_of_cell? _ _ d3)).trans d3;have d4:=(hSW.cell (World.block_lt_of_cell? _ _ d4)).trans d4
   first | (go_simp;done) | (go_simp;with_reducible rfl)
  (try simp only [Act.put,Yd,Ye,Yf])
  refine wpAnyH_take (i:=4) (oi:=?oi18) (v:=?v18) ?h1x18 (by kernel_rfl) ?h3x18 (by kernel_rfl) ?h5x18 (Or.inl ⟨?h6x18,?h7x18⟩) hHeld ?h8x18
  case h1x18=>
   simp only [Ya,Yb,Yc];rfl
  case h3x18=>kernel_rfl
  case h5x18=>exact fun _ _ _ h=>h
  case h6x18=>rfl
  case h7x18=>
   intro Wz hSW;have p0:=(hSW.cell (World.block_lt_of_cell? _ _ p0)).trans p0;have p1:=(hSW.cell (World.block_lt_of_cell? _ _ p1)).trans p1;have d0:=(hSW.cell (World.block_lt_of_cell? _ _ d0)).trans d0;have d1:=(hSW.cell (World.block_lt_of_cell? _ _ d1)).trans d1;have d2:=(hSW.cell (World.block_lt_of_cell? _ _ d2)).trans d2;have d3:=(hSW.cell (World.block_lt_of_cell? _ _ d3)).trans d3;have d4:=(hSW.cell (World.block_lt_of_cell? _ _ d4)).trans d4
   first | (go_simp;done) | (go_simp;with_reducible rfl)
  (try simp only [Act.put,Yd,Ye,Yf])
  refine wpAnyH_take (i:=5) (oi:=?oi19) (v:=?v19) ?h1x19 (by kernel_rfl) ?h3x19 (by kernel_rfl) ?h5x19 (Or.inl ⟨?h6x19,?h7x19⟩) hHeld ?h8x19
  case h1x19=>
   simp only [Ya,Yb,Yc];rfl
  case h3x19=>kernel_rfl
  case h5x19=>exact fun _ _ _ h=>h
  case h6x19=>rfl
  case h7x19=>
   intro Wz hSW;have p0:=(hSW.cell (World.block_lt_of_cell? _ _ p0)).trans p0;have p1:=(hSW.cell (World.block_lt_of_cell? _ _ p1)).trans p1;have d0:=(hSW.cell (World.block_lt_of_cell? _ _ d0)).trans d0;have d1:=(hSW.cell (World.block_lt_of_cell? _ _ d1)).trans d1;have d2:=(hSW.cell (World.block_lt_of_cell? _ _ d2)).trans d2;have d3:=(hSW.cell (World.block_lt_of_cell? _ _ d3)).trans d3;have d4:=(hSW.cell (World.block_lt_of_cell? _ _ d4)).trans d4
   first | (go_simp;done) | (go_simp;with_reducible rfl)
  (try simp only [Act.put,Yd,Ye,Yf])
  refine wpAnyH_take (i:=6) (oi:=?oi20) (v:=?v20) ?h1x20 (by kernel_rfl) ?h3x20 (by kernel_rfl) ?h5x20 (Or.inl ⟨?h6x20,?h7x20⟩) hHeld ?h8x20
  case h1x20=>
   simp only [Ya,Yb,Yc];rfl
  case h3x20=>kernel_rfl
  case h5x20=>exact fun _ _ _ h=>h
  case h6x20=>rfl
  case h7x20=>
   intro Wz hSW;have p0:=(hSW.cell (World.block_lt_of_cell? _ _ p0)).trans p0;have p1:=(hSW.cell (World.block_lt_of_cell? _ _ p1)).trans p1;have d0:=(hSW.cell (World.block_lt_of_cell? _ _ d0)).trans d0;have d1:=(hSW.cell (World.block_lt_of_cell? _ _ d1)).trans d1;have d2:=(hSW.cell (World.block_lt_of_cell? _ _ d2)).trans d2;have d3:=(hSW.cell (World.block_lt_of_cell? _ _ d3)).trans d3;have d4:=(hSW.cell (World.block_lt_of_cell? _ _ d4)).trans d4
   first | (go_simp;done) | (go_simp;with_reducible rfl)
  (try simp only [Act.put,Yd,Ye,Yf])
  refine wpAnyH_take (i:=7) (oi:=?oi21) (v:=?v21) ?h1x21 (by kernel_rfl) ?h3x21 (by kernel_rfl) ?h5x21 (Or.inl ⟨?h6x21,?h7x21⟩) hHeld ?h8x21
  case h1x21=>
   simp only [Ya,Yb,Yc];rfl
  case h3x21=>kernel_rfl
  case h5x21=>exact fun _ _ _ h=>h
  case h6x21=>rfl
  case h7x21=>
   intro Wz hSW;have p0:=(hSW.cell (World.block_lt_of_cell? _ _ p0)).trans p0;have p1:=(hSW.cell (World.block_lt_of_cell? _ _ p1)).trans p1;have d0:=(hSW.cell (World.block_lt_of_cell? _ _ d0)).trans d0;have d1:=(hSW.cell (World.block_lt_of_cell? _ _ d1)).trans d1;have d2:=(hSW.cell (World.block_lt_of_cell? _ _ d2)).trans d2;have d3:=(hSW.cell (World.block_lt_of_cell? _ _ d3)).trans d3;have d4:=(hSW.cell (World.block_lt_of_cell? _ _ d4)).trans d4
   first | (go_simp;done) | (go_simp;with_reducible rfl)
  (try simp only [Act.put,Yd,Ye,Yf])
  refine wpAnyH_take (i:=8) (oi:=?oi22) (v:=?v22) ?h1x22 (by kernel_rfl) ?h3x22 (by kernel_rfl) ?h5x22 (Or.inl ⟨?h6x22,?h7x22⟩) hHeld ?h8x22
  case h1x22=>
   simp only [Ya,Yb,Yc];rfl
  case h3x22=>kernel_rfl
  case h5x22=>exact fun _ _ _ h=>h
  case h6x22=>rfl
  case h7x22=>
   intro Wz hSW;have p0:=(hSW.cell (World.block_lt_of_cell? _ _ p0)).trans p0;have p1:=(hSW.cell (World.block_lt_of_cell? _ _ p1)).trans p1;have d0:=(hSW.cell (World.block_lt_of_cell? _ _ d0)).trans d0;have d1:=(hSW.cell (World.block_lt_of_cell? _ _ d1)).trans d1;have d2:=(hSW.cell (World.block_lt_of_cell? _ _ d2)).trans d2;have d3:=(hSW.cell (World.block_lt_of_cell? _ _ d3)).trans d3;have d4:=(hSW.cell (World.block_lt_of_cell? _ _ d4)).trans d4
   first | (go_simp;done) | (go_simp;with_reducible rfl)
  (try simp only [Act.put,Yd,Ye,Yf])
  refine wpAnyH_ready (rs:=[9]) (by kernel_rfl) (by simp) ?_;refine AllReadyH.cons (by rfl) (fun K hK=>?_) AllReadyH.nil
  go_simp
  (go_at_call 24;(with_reducible refine(HRN.out _ ?hx).mono ?_);(case hx=>exact hHeld);rintro e Wn ⟨⟨S9,c9,rfl,hr9,hc9⟩,hq⟩;have HBn:=Hd (hHeld.trans (hq.mono hHeld.size));have HRg:=Hd hr9;have HCg:=Hd hc9;clear hr9 hc9;clear hq)
  go_wp2_with fail
  refine hK.out _ _ ?_ (fun hHeld=>?_)
  · exact HBn.out
  clear hK K
  (try simp only [Act.put,Yd,Ye,Yf])
  refine wpAnyH_take (i:=10) (oi:=?oi23) (v:=?v23) ?h1x23 (by kernel_rfl) ?h3x23 (by kernel_rfl) ?h5x23 (Or.inl ⟨?h6x23,?h7x23⟩) hHeld ?h8x23
  case h1x23=>
   simp only [Ya,Yb,Yc];rfl
  case h3x23=>kernel_rfl
  case h5x23=>exact fun _ _ _ h=>h
  case h6x23=>rfl
  case h7x23=>
   intro Wz hSW;have p0:=(hSW.cell (World.block_lt_of_cell? _ _ p0)).trans p0;have p1:=(hSW.cell (World.block_lt_of_cell? _ _ p1)).trans p1;have d0:=(hSW.cell (World.block_lt_of_cell? _ _ d0)).trans d0;have d1:=(hSW.cell (World.block_lt_of_cell? _ _ d1)).trans d1;have d2:=(hSW.cell (World.block_lt_of_cell? _ _ d2)).trans d2;have d3:=(hSW.cell (World.block_lt_of_cell? _ _ d3)).trans d3;have d4:=(hSW.cell (World.block_lt_of_cell? _ _ d4)).trans d4
   first | (go_simp;done) | (go_simp;with_reducible rfl)
  (try simp only [Act.put,Yd,Ye,Yf])
  refine wpAnyH_take (i:=11) (oi:=?oi24) (v:=?v24) ?h1x24 (by kernel_rfl) ?h3x24 (by kernel_rfl) ?h5x24 (Or.inl ⟨?h6x24,?h7x24⟩) hHeld ?h8x24
  case h1x24=>
   simp only [Ya,Yb,Yc];rfl
  case h3x24=>kernel_rfl
  case h5x24=>exact fun _ _ _ h=>h
  case h6x24=>rfl
  case h7x24=>
   intro Wz hSW;have p0:=(hSW.cell (World.block_lt_of_cell? _ _ p0)).trans p0;have p1:=(hSW.cell (World.block_lt_of_cell? _ _ p1)).trans p1;have d0:=(hSW.cell (World.block_lt_of_cell? _ _ d0)).trans d0;have d1:=(hSW.cell (World.block_lt_of_cell? _ _ d1)).trans d1;have d2:=(hSW.cell (World.block_lt_of_cell? _ _ d2)).trans d2;have d3:=(hSW.cell (World.block_lt_of_cell? _ _ d3)).trans d3;have d4:=(hSW.cell (World.block_lt_of_cell? _ _ d4)).trans d4
   first | (go_simp;done) | (go_simp;with_reducible rfl)
  (try simp only [Act.put,Yd,Ye,Yf])
  refine wpAnyH_take (i:=12) (oi:=?oi25) (v:=?v25) ?h1x25 (by kernel_rfl) ?h3x25 (by kernel_rfl) ?h5x25 (Or.inl ⟨?h6x25,?h7x25⟩) hHeld ?h8x25
  case h1x25=>
   simp only [Ya,Yb,Yc];rfl
  case h3x25=>kernel_rfl
  case h5x25=>exact fun _ _ _ h=>h
  case h6x25=>rfl
  case h7x25=>
   intro Wz hSW;have p0:=(hSW.cell (World.block_lt_of_cell? _ _ p0)).trans p0;have p1:=(hSW.cell (World.block_lt_of_cell? _ _ p1)).trans p1;have d0:=(hSW.cell (World.block_lt_of_cell? _ _ d0)).trans d0;have d1:=(hSW.cell (World.block_lt_of_cell? _ _ d1)).trans d1;have d2:=(hSW.cell (World.block_lt_of_cell? _ _ d2)).trans d2;have d3:=(hSW.cell (World.block_lt_of_cell? _ _ d3)).trans d3;have d4:=(hSW.cell (World.block_lt_of_cell? _ _ d4)).trans d4
   first | (go_simp;done) | (go_simp;with_reducible rfl)
  (try simp only [Act.put,Yd,Ye,Yf])
  refine wpAnyH_take (i:=13) (oi:=?oi26) (v:=?v26) ?h1x26 (by kernel_rfl) ?h3x26 (by kernel_rfl) ?h5x26 (Or.inl ⟨?h6x26,?h7x26⟩) hHeld ?h8x26
  case h1x26=>
   simp only [Ya,Yb,Yc];rfl
  case h3x26=>kernel_rfl
  case h5x26=>exact fun _ _ _ h=>h
  case h6x26=>rfl
  case h7x26=>
   intro Wz hSW;have p0:=(hSW.cell (World.block_lt_of_cell? _ _ p0)).trans p0;have p1:=(hSW.cell (World.block_lt_of_cell? _ _ p1)).trans p1;have d0:=(hSW.cell (World.block_lt_of_cell? _ _ d0)).trans d0;have d1:=(hSW.cell (World.block_lt_of_cell? _ _ d1)).trans d1;have d2:=(hSW.cell (World.block_lt_of_cell? _ _ d2)).trans d2;have d3:=(hSW.cell (World.block_lt_of_cell? _ _ d3)).trans d3;have d4:=(hSW.cell (World.block_lt_of_cell? _ _ d4)).trans d4
   first | (go_simp;done) | (go_simp;with_reducible rfl)
  (try simp only [Act.put,Yd,Ye,Yf])
  refine wpAnyH_done (by kernel_rfl) ?_ _
  go_wp2_with fail
  refine bodyPost_ret (results_tmp2 rfl _ _ _) rfl ?_;exact⟨below_nextC HB0.out HBn.out,S9,c9,rfl,HRg.out,HCg.out⟩
theorem clRowE(p:Pg) (E:Option Addr) (ec:Nat) (N:Option Addr) (nc:Nat) (i:Int) (s:ByteArray) (w:World) (h:rdP w p E N):
 Calls Tryz.prog 10 #[.agg (pgA p E ec N nc),.int .i64 i,.string s] w (RowPostP w (rowOf p i s)):=by
 by_cases hi:i<0∨(p.ns.length:Int)≤i
 · rw [rowOf_no hi];exact clRowNo p E ec N nc i s w hi
 · obtain⟨n,rfl⟩:∃ n:Nat,i=n:=⟨i.toNat,by omega⟩;rw [rowOf_in (by omega)];exact clRowIn p E ec N nc n s w h (by omega)
end
section
open Go.RowKit Go.Sort Go.BigFrame
def clvC:Dc:=⟨⟨#[99]⟩,2,0,0,⟨#[]⟩,⟨#[]⟩⟩
def clvH:Dc:=⟨⟨#[104]⟩,1,0,0,⟨#[99]⟩,⟨#[116,114,117,101]⟩⟩
def clvN:Nd:=⟨⟨#[102]⟩,[clvC],[],[clvH],[]⟩
def clvP:Pg:=⟨[],[clvN]⟩
theorem clv_row:rowOf clvP 0 ⟨#[104]⟩=some [⟨⟨#[99]⟩,1⟩]:=by kernel_rfl
theorem clv_rdD{w:World}{b:Nat}{d:Dc}(hb:b<w.heap.size) (h:∀ j,w.cell? ⟨b,j,none⟩=(dcA d)[j]?):RdD w (some ⟨b,0,none⟩) 1 [d]:=by
 refine⟨rfl,by omega,fun _=>⟨b,0,rfl,hb,fun i hi=>?_⟩⟩;obtain rfl:i=0:=by omega
 intro j v hv;rw [Nat.zero_mul,Nat.add_zero,Nat.zero_add,h j]
 simpa [dcA,dcL] using hv
theorem clv_mem(w w6:World) (h:((((w.alloc (.cells (dcA clvC) 43)).alloc (.cells (dcA clvH) 43)).alloc
 (.cells (ndA clvN (some ⟨w.heap.size,0,none⟩) 1 none 0 (some ⟨w.heap.size+1,0,none⟩) 1 none 0) 36)).alloc
 (.cells (ndA clvN (some ⟨w.heap.size,0,none⟩) 1 none 0 (some ⟨w.heap.size+1,0,none⟩) 1 none 0) 36))=w6):
 rdP w6 clvP none (some ⟨w.heap.size+1+1+1,0,none⟩)∧Below w.heap.size w w6:=by
 generalize h1:w.alloc (.cells (dcA clvC) 43)=w1 at h;obtain⟨b1,e1,k1⟩:=cl_box h1;generalize h2:w1.alloc (.cells (dcA clvH) 43)=w2 at h;obtain⟨b2,e2,k2⟩:=cl_box h2;generalize h3:w2.alloc _=w3 at h;obtain⟨b3,e3,k3⟩:=cl_box h3;obtain⟨b4,e4,k4⟩:=cl_box h;have c3:Below w3.heap.size w3 w6:=b4;have c2:Below w2.heap.size w2 w6:=b3.trans (c3.mono b3.size);have c1:Below w1.heap.size w1 w6:=b2.trans (c2.mono b2.size);have c0:Below w.heap.size w w6:=b1.trans (c1.mono b1.size);rw [e1] at k2 e2;rw [e2] at k3 e3;rw [e3] at k4 e4;have rA:RdD w6 (some ⟨w.heap.size,0,none⟩) 1 [clvC]:=clv_rdD (by omega) (k1 w6 c1);have rB:RdD w6 (some ⟨w.heap.size+1,0,none⟩) 1 [clvH]:=clv_rdD (by omega) (k2 w6 c2);refine⟨⟨RdE.nil_ _,⟨rfl,by decide,fun _=>⟨_,0,rfl,by omega,fun i hi=>?_⟩⟩⟩,c0⟩
 obtain rfl:i=0:=by
  have:clvP.ns.length=1:=rfl;omega
 refine⟨some ⟨w.heap.size,0,none⟩,1,none,0,some ⟨w.heap.size+1,0,none⟩,1,none,0,fun j v hv=>?_,⟨rA,RdS.nil_ _ _ _,rB,RdS.nil_ _ _ _⟩⟩;rw [show 0+0*5+j=j by omega,k4 w6 (Below.refl _ _) j];exact(show(ndA clvN (some ⟨w.heap.size,0,none⟩) 1 none 0 (some ⟨w.heap.size+1,0,none⟩) 1 none 0)[j]?=(ndL clvN (some ⟨w.heap.size,0,none⟩) 1 none 0 (some ⟨w.heap.size+1,0,none⟩) 1 none 0)[j]? by simp [ndA,ndL]).trans hv
theorem clLive(w:World):Calls Tryz.prog 6 #[] w fun e w'=>e=.returned (.bool true)∧Below w.heap.size w w':=by
 have HL:=Hd fun N w6 (hr:rdP w6 clvP none N)=>(show Calls Tryz.prog 10 #[.agg #[.slice none 0 0,.slice N 1 1],.int .i64 0,.string ⟨#[104]⟩] w6 fun e w'=>Below w6.heap.size w6 w'∧∃ A c,e=.returned (.tuple #[.slice A 1 c,.bool true])∧RdC w' A 1 [⟨⟨#[99]⟩,1⟩] from by
  have:=clRowE clvP none 0 N 1 0 ⟨#[104]⟩ w6 hr;rw [clv_row] at this;exact this.mono fun e w' ⟨hb,A,c,h1,h2,_⟩=>⟨hb,A,c,h1,h2⟩)
 have HM:=Hd clv_mem
 go_enter Tryz.func6,Tryz.ntmps6
 go_upto_region 2 with(fail)
 generalize hw3:((w.alloc _).alloc _).alloc _=w3
 have hb3:Below w.heap.size w w3:=by
  subst hw3;exact(((Below.refl _ _).alloc (Nat.le_refl _) _).alloc (by simp) _).alloc (by simp;omega) _
 have hk3:∀ w',Below w3.heap.size w3 w'→∀ j,w'.cell? ⟨w.heap.size+1+1,j,none⟩=(ndA clvN (some ⟨w.heap.size,0,none⟩) 1 none 0 (some ⟨w.heap.size+1,0,none⟩) 1 none 0)[j]?:=by
  generalize hw2:(w.alloc _).alloc _=w2 at hw3;have e2:w2.heap.size=w.heap.size+1+1:=by rw [← hw2];simp
  obtain⟨_,_,k⟩:=cl_box hw3;rw [e2] at k;exact k
 obtain⟨n0,n1,n2,n3,n4,-⟩:=Sx (hk3 w3 (Below.refl _ _));simp only [ndA,clvN,List.length_cons,List.length_nil,List.getElem?_toArray,List.getElem?_cons_zero,List.getElem?_cons_succ] at n0 n1 n2 n3 n4;have HM3:=Hd fun w6 (h:w3.alloc (.cells (ndA clvN (some ⟨w.heap.size,0,none⟩) 1 none 0 (some ⟨w.heap.size+1,0,none⟩) 1 none 0) 36)=w6)=>HM.out w w6 (by rw [← h,← hw3];rfl);have HE3:=Hd (show w3.heap.size=w.heap.size+1+1+1 by rw [← hw3];simp);have HB3:=Hd hb3;clear hw3 hb3 hk3 HM
 go_wp2_with fail
 generalize hw6:World.alloc _ _=w6;obtain⟨hr,hb⟩:=HM3.out w6 hw6;have HL6:=Hd (HL.out _ w6 hr);rw [← HE3.out] at HL6;have HB:=Hd hb;clear hw6 hr hb HM3 HL n0 n1 n2 n3 n4;refine HL6.out.mono ?_;rintro e w7 ⟨hb7,S,c,rfl,hrd⟩;have HB7:=Hd (below_nextC HB.out hb7);clear hb7;obtain⟨sb,so,rfl,hsb,hat⟩:=RdS.at_ hrd (by omega);obtain⟨c0,c1⟩:=(hat 0 (by omega)).two;simp only [Nat.zero_mul,Nat.add_zero,List.getElem?_cons_zero,Option.getD_some] at c0 c1;clear hat
 go_wp2_with fail
 go_ret
 exact⟨rfl,HB7.out⟩
end
end Go.Proofs.YtkbpdoomhfkngaaGreat
