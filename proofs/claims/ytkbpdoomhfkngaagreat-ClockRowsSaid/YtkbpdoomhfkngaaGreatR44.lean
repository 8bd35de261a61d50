/- Parts of the proof: CmW. Conditions: each theorem's own. -/
import Derived.Test.YtkbpdoomhfkngaaGreatR40
import Derived.Test.YtkbpdoomhfkngaaGreatR43
namespace Go.Proofs.YtkbpdoomhfkngaaGreat
set_option linter.unusedVariables false
set_option linter.unusedSimpArgs false
set_option maxRecDepth 100000
set_option maxHeartbeats 40000000
section
open Go.RowKit Go.Sort Go.BigFrame
theorem NdCap.below{w w':World}{N:Option Addr}{m:Nat}{l:List Nd}(h:NdCap w N m) (hr:RdNs w N m l) (hb:Below w.heap.size w w'):NdCap w' N m:=by
 intro b off e i hi A n c hc;obtain⟨b2,off2,A1,c1,A2,c2,A3,c3,A4,c4,e2,hb2,hrd,d0,d1,d2,d3,d4⟩:=nd_atC hr hi;rw [e] at e2;injection e2 with e2;injection e2 with e3 e4 _;subst e3 e4;rw [hb.cell (p:=⟨b,off+i*5+4,none⟩) hb2] at hc;have hc2:=hc;rw [d4] at hc2;injection hc2 with hc2;injection hc2 with h1 h2 h3;subst h1 h2;exact(h b off e i hi _ _ _ hc).below hrd.2.2.2 hb
theorem fl_cases(a b c:Int):(a=0∧b=0∧c=0)∨¬ a=0∨(a=0∧¬ b=0)∨(a=0∧b=0∧¬ c=0):=by
 by_cases h1:a=0
 · by_cases h2:b=0
   · by_cases h3:c=0
     · exact .inl ⟨h1,h2,h3⟩
     · exact .inr (.inr (.inr ⟨h1,h2,h3⟩))
   · exact .inr (.inr (.inl ⟨h1,h2⟩))
 · exact .inr (.inl h1)
theorem walkRows(p:Pg) (E:Option Addr) (ec:Nat) (N:Option Addr) (nc:Nat) (w:World) (h:rdP w p E N) (hcap:NdCap w N p.ns.length):
 Calls Tryz.prog 4 #[.agg (pgA p E ec N nc)] w fun e w'=>e=.returned (.bool true)∧Below w.heap.size w w':=by
 have HF:=Hd fun w0 hw=>cl_box (w:=w) (w1:=w0) (cs:=pgA p E ec N nc) (T:=25) hw;have HSM:=Hd fun w1 (hb:Below w.heap.size w w1)=>refPgSmall p E ec N nc w1 (h.below hb);have HC:=Hd fun(ht:TinyP p) w1 (hb:Below w.heap.size w w1)=>clCheck p E ec N nc w1 (h.below hb) ht (hcap.below h.2 hb);have HRW:=Hd fun i s w1 (hb:Below w.heap.size w w1) (hi:i<p.ns.length)=>clRowIn p E ec N nc i s w1 (h.below hb) hi;have HLV:=Hd clLive;have HNS:=Hd h.2;have HLET:=Hd fun(ht:TinyP p) (h:checkC p=(0,0,0)) i (hi:i<p.ns.length) k (hk:k<(ndAt p i).all.length)=>rows_let ht h hi hk;have hmx:=RdS.max h.2;clear h hcap;unfold pgA at *;unfold flV f3A at HC;unfold RowPostP at HRW;generalize checkC p=cs at *;obtain⟨ra,rb,rc⟩:=cs
 dsimp only at HC
 generalize hpn:p.ns.length=pn at *;generalize hpe:p.es=es at *;generalize es.length=pe at *
 go_enter Tryz.func4,Tryz.ntmps4
 go_upto_region 1 with(fail)
 generalize hw0:w.alloc _=w0;obtain⟨hb0,hsz,hp⟩:=HF.out w0 hw0;have HB0:=Hd hb0;have HP:=Hd hp;clear hw0 hb0 hsz hp HF;have p0:=HP.out w0 (Below.refl _ _) 0;have p1:=HP.out w0 (Below.refl _ _) 1;simp only [Ya,Yb,Yc] at p0 p1
 go_wp2_with fail
 refine(HSM.out w0 HB0.out).mono ?_;rintro e w1 ⟨b,rfl,ht,hb1⟩;have HB1:=Hd hb1;clear p0 p1
 cases b with
 | false=>
  clear hb1 ht
  go_wp2_with fail
  refine(HLV.out w1).mono ?_;rintro e wl ⟨rfl,hbl⟩;have HBL:=Hd (HB1.out.trans (hbl.mono HB1.out.size));clear hbl
  go_wp2_with fail
  go_ret
  exact⟨rfl,HB0.out.trans (HBL.out.mono HB0.out.size)⟩
 | true=>
  have HT:=Hd (ht rfl);have p0:=HP.out w1 hb1 0;have p1:=HP.out w1 hb1 1;simp only [Ya,Yb,Yc] at p0 p1;clear ht hb1
  go_wp2_with fail
  refine(HC.out HT.out w1 (HB0.out.trans (HB1.out.mono HB0.out.size))).mono ?_;rintro e w2 ⟨rfl,hb⟩;have hb2:=HB1.out.trans (hb.mono HB1.out.size);have HB2:=Hd hb2;clear hb p0 p1 HC HSM;rcases fl_cases ra rb rc with⟨rfl,rfl,rfl⟩ | ha | ⟨rfl,ha⟩|⟨rfl,rfl,ha⟩
  · have HLE:=Hd (HLET.out HT.out (by first | exact rfl | trivial));clear hb2 HLET
    go_wp2_with fail
    go_loopw [3] (fun c wr=>∃ i:Nat,i≤pn∧c=.int .i64 i∧Below w2.heap.size w2 wr) (fun c _=>pn-(intOf c).toNat)
    case atStart=>exact⟨0,Nat.zero_le _,rfl,Below.refl _ _⟩
    case round=>
     obtain⟨i,hi,rfl,hbr⟩:=hrel;have hb3:=HB2.out.trans (hbr.mono HB2.out.size);have HB3:=Hd hb3;have HBR:=Hd hbr;have hbw:=HB0.out.trans (hb3.mono HB0.out.size);have HWR:=Hd hbw;have p0:=HP.out wr hb3 0;have p1:=HP.out wr hb3 1;simp only [Ya,Yb,Yc] at p0 p1;clear hbr hb3
     by_cases hlt:i<pn
     · obtain⟨nb,no,A1,c1,A2,c2,A3,c3,A4,c4,rfl,hnb,hrd,d0,d1,d2,d3,d4⟩:=nd_atC HNS.out hlt;have d0:=(hbw.cell (p:=⟨nb,no+i*5,none⟩) hnb).trans d0;have d1:=(hbw.cell (p:=⟨nb,no+i*5+1,none⟩) hnb).trans d1;have d2:=(hbw.cell (p:=⟨nb,no+i*5+2,none⟩) hnb).trans d2;have d3:=(hbw.cell (p:=⟨nb,no+i*5+3,none⟩) hnb).trans d3;have d4:=(hbw.cell (p:=⟨nb,no+i*5+4,none⟩) hnb).trans d4;have hnd:ndAt p i=p.ns[i]?.getD default:=rfl;have HAD:=Hd (refAllD (ndAt p i) A1 c1 A2 c2 A3 c3 A4 c4 wr (hrd.below hbw) (by have:=TinyN.len (HT.out.2.2 i (by rw [hpn];exact hlt));rw [hnd];omega));have HLI:=Hd (HLE.out i hlt);have HRI:=Hd fun s w1 hb=>HRW.out i s w1 hb hlt;rw [hnd] at HAD HLI HRI;unfold DeclsPost ndA at HAD;clear hnd hrd hbw;generalize p.ns[i]?.getD default=nd at *;generalize nd.all=al at *;generalize hal:al.length=an at *;clear hal
       go_wp2_with fail
       refine HAD.out.mono ?_;rintro e w5 ⟨LA,LC,rfl,hrl,hb5⟩;have HRL:=Hd hrl;have HL5:=Hd (HBR.out.trans (hb5.mono HBR.out.size));have HB5:=Hd (HB3.out.trans (hb5.mono HB3.out.size));clear hrl hb5 p0 p1 d0 d1 d2 d3 d4 HAD;generalize wr=wo at *;have hax:=RdS.max HRL.out
       go_wp2_with fail
       go_loopw [5] (fun c wr=>∃ j:Nat,j≤an∧c=.int .i64 j∧Below w5.heap.size w5 wr) (fun c _=>an-(intOf c).toNat)
       case atStart=>exact⟨0,Nat.zero_le _,rfl,Below.refl _ _⟩
       case round=>
        obtain⟨j,hj,rfl,hbi⟩:=hrel;have HBI:=Hd hbi;have hb6:=HB5.out.trans (hbi.mono HB5.out.size);have HB6:=Hd hb6;have HW6:=Hd (HB0.out.trans (hb6.mono HB0.out.size));have p0:=HP.out wr hb6 0;have p1:=HP.out wr hb6 1;simp only [Ya,Yb,Yc] at p0 p1;clear hb6
        by_cases hja:j<an
        · obtain⟨lb,lo,hLA,hlb,hlc⟩:=RdS.at_ HRL.out (by omega);obtain⟨s0,-,-,-,s4,-⟩:=(hlc j hja).six;have s0:=(hbi.cell (p:=⟨lb,lo+j*6,none⟩) hlb).trans s0;have s4:=(hbi.cell (p:=⟨lb,lo+j*6+4,none⟩) hlb).trans s4;subst hLA;obtain⟨row,hrow,hpos,hahd⟩:=HLI.out j hja;have HRX:=Hd fun W (hb:Below wr.heap.size wr W)=>HRI.out (al[j]?.getD default).nm W (HW6.out.trans (hb.mono HW6.out.size));rw [hrow] at HRX;have HPOS:=Hd hpos;have HAH:=Hd hahd;clear hbi hlc hrow hpos hahd;generalize al[j]?.getD default=d at *;have HRN:=Hd fun W (hb:Below wr.heap.size wr W)=>(HRX.out W hb).mono fun e w' (h:_∧_)=>(show(∃ A c,e=.returned (.tuple #[.slice A row.length c,.bool true])∧RdC w' A row.length row∧row.length≤c)∧Below W.heap.size W w' from⟨h.2,h.1⟩);clear HRX;generalize d.nm=dnm at *;generalize hon:d.on=don at *;clear hon;have hjn:(j:Int)<(an:Int):=by omega
          go_upto_region 10 with(fail)
          refine wp_region_held_drew (S:=fun Wz=>Below wr.heap.size wr Wz) (by kernel_rfl) ?_ (fun hHeld=>?_)
          · exact(Below.refl wr.heap.size wr).drew
          refine wpAnyH_take (i:=0) (oi:=?oi1) (v:=?v1) ?h1x1 (by kernel_rfl) ?h3x1 (by kernel_rfl) ?h5x1 (Or.inl ⟨?h6x1,?h7x1⟩) hHeld ?h8x1
          case h1x1=>
           simp only [Ya,Yb,Yc];rfl
          case h3x1=>kernel_rfl
          case h5x1=>exact fun _ _ _ h=>h
          case h6x1=>rfl
          case h7x1=>
           intro Wz hSW;have p0:=(hSW.cell (World.block_lt_of_cell? _ _ p0)).trans p0;have p1:=(hSW.cell (World.block_lt_of_cell? _ _ p1)).trans p1;have s0:=(hSW.cell (World.block_lt_of_cell? _ _ s0)).trans s0
           first | (go_simp;done) | (go_simp;with_reducible rfl)
          (try simp only [Act.put,Yd,Ye,Yf])
          refine wpAnyH_take (i:=1) (oi:=?oi2) (v:=?v2) ?h1x2 (by kernel_rfl) ?h3x2 (by kernel_rfl) ?h5x2 (Or.inl ⟨?h6x2,?h7x2⟩) hHeld ?h8x2
          case h1x2=>
           simp only [Ya,Yb,Yc];rfl
          case h3x2=>kernel_rfl
          case h5x2=>exact fun _ _ _ h=>h
          case h6x2=>rfl
          case h7x2=>
           intro Wz hSW;have p0:=(hSW.cell (World.block_lt_of_cell? _ _ p0)).trans p0;have p1:=(hSW.cell (World.block_lt_of_cell? _ _ p1)).trans p1;have s0:=(hSW.cell (World.block_lt_of_cell? _ _ s0)).trans s0
           first | (go_simp;done) | (go_simp;with_reducible rfl)
          (try simp only [Act.put,Yd,Ye,Yf])
          refine wpAnyH_take (i:=2) (oi:=?oi3) (v:=?v3) ?h1x3 (by kernel_rfl) ?h3x3 (by kernel_rfl) ?h5x3 (Or.inl ⟨?h6x3,?h7x3⟩) hHeld ?h8x3
          case h1x3=>
           simp only [Ya,Yb,Yc];rfl
          case h3x3=>kernel_rfl
          case h5x3=>exact fun _ _ _ h=>h
          case h6x3=>rfl
          case h7x3=>
           intro Wz hSW;have p0:=(hSW.cell (World.block_lt_of_cell? _ _ p0)).trans p0;have p1:=(hSW.cell (World.block_lt_of_cell? _ _ p1)).trans p1;have s0:=(hSW.cell (World.block_lt_of_cell? _ _ s0)).trans s0
           first | (go_simp;done) | (go_simp;with_reducible rfl)
          (try simp only [Act.put,Yd,Ye,Yf])
          refine wpAnyH_take (i:=3) (oi:=?oi4) (v:=?v4) ?h1x4 (by kernel_rfl) ?h3x4 (by kernel_rfl) ?h5x4 (Or.inl ⟨?h6x4,?h7x4⟩) hHeld ?h8x4
          case h1x4=>
           simp only [Ya,Yb,Yc];rfl
          case h3x4=>kernel_rfl
          case h5x4=>exact fun _ _ _ h=>h
          case h6x4=>rfl
          case h7x4=>
           intro Wz hSW;have p0:=(hSW.cell (World.block_lt_of_cell? _ _ p0)).trans p0;have p1:=(hSW.cell (World.block_lt_of_cell? _ _ p1)).trans p1;have s0:=(hSW.cell (World.block_lt_of_cell? _ _ s0)).trans s0
           first | (go_simp;done) | (go_simp;with_reducible rfl)
          (try simp only [Act.put,Yd,Ye,Yf])
          refine wpAnyH_take (i:=4) (oi:=?oi5) (v:=?v5) ?h1x5 (by kernel_rfl) ?h3x5 (by kernel_rfl) ?h5x5 (Or.inl ⟨?h6x5,?h7x5⟩) hHeld ?h8x5
          case h1x5=>
           simp only [Ya,Yb,Yc];rfl
          case h3x5=>kernel_rfl
          case h5x5=>exact fun _ _ _ h=>h
          case h6x5=>rfl
          case h7x5=>
           intro Wz hSW;have p0:=(hSW.cell (World.block_lt_of_cell? _ _ p0)).trans p0;have p1:=(hSW.cell (World.block_lt_of_cell? _ _ p1)).trans p1;have s0:=(hSW.cell (World.block_lt_of_cell? _ _ s0)).trans s0
           first | (go_simp;done) | (go_simp;with_reducible rfl)
          (try simp only [Act.put,Yd,Ye,Yf])
          refine wpAnyH_take (i:=5) (oi:=?oi6) (v:=?v6) ?h1x6 (by kernel_rfl) ?h3x6 (by kernel_rfl) ?h5x6 (Or.inl ⟨?h6x6,?h7x6⟩) hHeld ?h8x6
          case h1x6=>
           simp only [Ya,Yb,Yc];rfl
          case h3x6=>kernel_rfl
          case h5x6=>exact fun _ _ _ h=>h
          case h6x6=>rfl
          case h7x6=>
           intro Wz hSW;have p0:=(hSW.cell (World.block_lt_of_cell? _ _ p0)).trans p0;have p1:=(hSW.cell (World.block_lt_of_cell? _ _ p1)).trans p1;have s0:=(hSW.cell (World.block_lt_of_cell? _ _ s0)).trans s0
           first | (go_simp;done) | (go_simp;with_reducible rfl)
          (try simp only [Act.put,Yd,Ye,Yf])
          refine wpAnyH_take (i:=6) (oi:=?oi7) (v:=?v7) ?h1x7 (by kernel_rfl) ?h3x7 (by kernel_rfl) ?h5x7 (Or.inl ⟨?h6x7,?h7x7⟩) hHeld ?h8x7
          case h1x7=>
           simp only [Ya,Yb,Yc];rfl
          case h3x7=>kernel_rfl
          case h5x7=>exact fun _ _ _ h=>h
          case h6x7=>rfl
          case h7x7=>
           intro Wz hSW;have p0:=(hSW.cell (World.block_lt_of_cell? _ _ p0)).trans p0;have p1:=(hSW.cell (World.block_lt_of_cell? _ _ p1)).trans p1;have s0:=(hSW.cell (World.block_lt_of_cell? _ _ s0)).trans s0
           first | (go_simp;done) | (go_simp;with_reducible rfl)
          (try simp only [Act.put,Yd,Ye,Yf])
          refine wpAnyH_ready (rs:=[7]) (by kernel_rfl) (by simp) ?_;refine AllReadyH.cons (by rfl) (fun K hK=>?_) AllReadyH.nil
          go_simp
          (go_at_call 10;(with_reducible refine(HRN.out _ ?hx).mono ?_);(case hx=>exact hHeld);rintro e Wn ⟨⟨S9,c9,rfl,hr9,hc9⟩,hq⟩;have HBn:=Hd (hHeld.trans (hq.mono hHeld.size));have HRg:=Hd hr9;have HCg:=Hd hc9;clear hr9 hc9;clear hq)
          go_wp2_with fail
          refine hK.out _ _ ?_ (fun hHeld=>?_)
          · exact HBn.out
          clear hK K
          (try simp only [Act.put,Yd,Ye,Yf])
          refine wpAnyH_take (i:=8) (oi:=?oi8) (v:=?v8) ?h1x8 (by kernel_rfl) ?h3x8 (by kernel_rfl) ?h5x8 (Or.inl ⟨?h6x8,?h7x8⟩) hHeld ?h8x8
          case h1x8=>
           simp only [Ya,Yb,Yc];rfl
          case h3x8=>kernel_rfl
          case h5x8=>exact fun _ _ _ h=>h
          case h6x8=>rfl
          case h7x8=>
           intro Wz hSW;have p0:=(hSW.cell (World.block_lt_of_cell? _ _ p0)).trans p0;have p1:=(hSW.cell (World.block_lt_of_cell? _ _ p1)).trans p1;have s0:=(hSW.cell (World.block_lt_of_cell? _ _ s0)).trans s0
           first | (go_simp;done) | (go_simp;with_reducible rfl)
          (try simp only [Act.put,Yd,Ye,Yf])
          refine wpAnyH_take (i:=9) (oi:=?oi9) (v:=?v9) ?h1x9 (by kernel_rfl) ?h3x9 (by kernel_rfl) ?h5x9 (Or.inl ⟨?h6x9,?h7x9⟩) hHeld ?h8x9
          case h1x9=>
           simp only [Ya,Yb,Yc];rfl
          case h3x9=>kernel_rfl
          case h5x9=>exact fun _ _ _ h=>h
          case h6x9=>rfl
          case h7x9=>
           intro Wz hSW;have p0:=(hSW.cell (World.block_lt_of_cell? _ _ p0)).trans p0;have p1:=(hSW.cell (World.block_lt_of_cell? _ _ p1)).trans p1;have s0:=(hSW.cell (World.block_lt_of_cell? _ _ s0)).trans s0
           first | (go_simp;done) | (go_simp;with_reducible rfl)
          (try simp only [Act.put,Yd,Ye,Yf])
          refine wpAnyH_take (i:=10) (oi:=?oi10) (v:=?v10) ?h1x10 (by kernel_rfl) ?h3x10 (by kernel_rfl) ?h5x10 (Or.inl ⟨?h6x10,?h7x10⟩) hHeld ?h8x10
          case h1x10=>
           simp only [Ya,Yb,Yc];rfl
          case h3x10=>kernel_rfl
          case h5x10=>exact fun _ _ _ h=>h
          case h6x10=>rfl
          case h7x10=>
           intro Wz hSW;have p0:=(hSW.cell (World.block_lt_of_cell? _ _ p0)).trans p0;have p1:=(hSW.cell (World.block_lt_of_cell? _ _ p1)).trans p1;have s0:=(hSW.cell (World.block_lt_of_cell? _ _ s0)).trans s0
           first | (go_simp;done) | (go_simp;with_reducible rfl)
          (try simp only [Act.put,Yd,Ye,Yf])
          refine wpAnyH_take (i:=11) (oi:=?oi11) (v:=?v11) ?h1x11 (by kernel_rfl) ?h3x11 (by kernel_rfl) ?h5x11 (Or.inl ⟨?h6x11,?h7x11⟩) hHeld ?h8x11
          case h1x11=>
           simp only [Ya,Yb,Yc];rfl
          case h3x11=>kernel_rfl
          case h5x11=>exact fun _ _ _ h=>h
          case h6x11=>rfl
          case h7x11=>
           intro Wz hSW;have p0:=(hSW.cell (World.block_lt_of_cell? _ _ p0)).trans p0;have p1:=(hSW.cell (World.block_lt_of_cell? _ _ p1)).trans p1;have s0:=(hSW.cell (World.block_lt_of_cell? _ _ s0)).trans s0
           first | (go_simp;done) | (go_simp;with_reducible rfl)
          (try simp only [Act.put,Yd,Ye,Yf])
          refine wpAnyH_take (i:=12) (oi:=?oi12) (v:=?v12) ?h1x12 (by kernel_rfl) ?h3x12 (by kernel_rfl) ?h5x12 (Or.inl ⟨?h6x12,?h7x12⟩) hHeld ?h8x12
          case h1x12=>
           simp only [Ya,Yb,Yc];rfl
          case h3x12=>kernel_rfl
          case h5x12=>exact fun _ _ _ h=>h
          case h6x12=>rfl
          case h7x12=>
           intro Wz hSW;have p0:=(hSW.cell (World.block_lt_of_cell? _ _ p0)).trans p0;have p1:=(hSW.cell (World.block_lt_of_cell? _ _ p1)).trans p1;have s0:=(hSW.cell (World.block_lt_of_cell? _ _ s0)).trans s0
           first | (go_simp;done) | (go_simp;with_reducible rfl)
          (try simp only [Act.put,Yd,Ye,Yf])
          refine wpAnyH_done (by kernel_rfl) ?_ _;have hrm:=RdS.max HRg.out;have HBn2:=Hd (HB6.out.trans (HBn.out.mono HB6.out.size));have HLn2:=Hd (HBI.out.trans (HBn.out.mono HBI.out.size));have v4:=(HBn.out.cell (World.block_lt_of_cell? _ _ s4)).trans s4;clear p0 p1 s0 s4 HRN;generalize hrl:row.length=m at *;have HML:=Hd hrl;have hcm:=HCg.out;clear hrl
          have hd0:decide ((0:Int)<(m:Int))=!(don.toList==[]):=by
           have:=HPOS.out;unfold noB at this;rw [← Lib.toList_data] at this;rw [← this]
           by_cases h:0<m
           · rw [decide_eq_true h,decide_eq_true (by omega)]
           · rw [decide_eq_false h,decide_eq_false (by omega)]
          generalize wr=wq at *
          cases hb0:(don.toList==[]) with
          | true=>
           have hd1:decide ((0:Int)<(m:Int))=false:=by rw [hd0,hb0];rfl
           have hd2:¬ 0<m:=by have:=of_decide_eq_false hd1;omega
           have hd3:decide (0<m)=false:=decide_eq_false hd2
           have hei:don.toList.isEmpty=true:=by
            have:=beq_iff_eq.1 hb0;rw [this];rfl
           clear hd0
           go_wp2_with fail
           go_loopw [8] (fun c wr=>∃ k:Nat,k≤m∧c=.int .i64 k∧Below Wn.heap.size Wn wr) (fun c _=>m-(intOf c).toNat)
           case atStart=>exact⟨0,Nat.zero_le _,rfl,Below.refl _ _⟩
           case round=>
            obtain⟨k,hk,rfl,hbk⟩:=hrel;have HBK:=Hd hbk;have hb8:=HBn2.out.trans (hbk.mono HBn2.out.size);have HB8:=Hd hb8;have HW8:=Hd (HB0.out.trans (hb8.mono HB0.out.size));have HRK:=Hd (HRg.out.below hbk);have p0:=HP.out wr hb8 0;have p1:=HP.out wr hb8 1;simp only [Ya,Yb,Yc] at p0 p1;clear hb8
            by_cases hlk:k<m
            · obtain⟨rb,ro,hS,hrb,hrc⟩:=RdS.at_ HRg.out (by omega);obtain⟨t0,-⟩:=(hrc k hlk).two;have t0:=(hbk.cell (p:=⟨rb,ro+k*2,none⟩) hrb).trans t0;subst hS;have HRX:=Hd fun W (hb:Below wr.heap.size wr W)=>HRI.out (row[k]?.getD default).nm W (HW8.out.trans (hb.mono HW8.out.size));rw [HAH.out k (by first | exact hlk | (rw [HML.out];exact hlk))] at HRX;have hlt2:(row.take k).length=k:=by rw [List.length_take,HML.out];omega
              have HRN:=Hd fun W (hb:Below wr.heap.size wr W)=>(HRX.out W hb).mono fun e w' (h:_∧_)=>(show(∃ A c,e=.returned (.tuple #[.slice A k c,.bool true])∧RdC w' A k (row.take k)∧k≤c)∧Below W.heap.size W w' from⟨by obtain⟨A0,c0,h1,h2,h3⟩:=h.2;rw [hlt2] at h1 h2 h3;exact⟨A0,c0,h1,h2,h3⟩,h.1⟩);clear hbk hrc HRX;generalize (row[k]?.getD default).nm=rnm at *;have hkm:(k:Int)<(m:Int):=by omega
              have hkc:(k:Int)≤(c9:Int):=by omega
              go_upto_region 16 with(fail)
              refine wp_region_held_drew (S:=fun Wz=>Below wr.heap.size wr Wz) (by kernel_rfl) ?_ (fun hHeld=>?_)
              · exact(Below.refl wr.heap.size wr).drew
              refine wpAnyH_take (i:=0) (oi:=?oi13) (v:=?v13) ?h1x13 (by kernel_rfl) ?h3x13 (by kernel_rfl) ?h5x13 (Or.inl ⟨?h6x13,?h7x13⟩) hHeld ?h8x13
              case h1x13=>
               simp only [Ya,Yb,Yc];rfl
              case h3x13=>kernel_rfl
              case h5x13=>exact fun _ _ _ h=>h
              case h6x13=>rfl
              case h7x13=>
               intro Wz hSW;have p0:=(hSW.cell (World.block_lt_of_cell? _ _ p0)).trans p0;have p1:=(hSW.cell (World.block_lt_of_cell? _ _ p1)).trans p1;have t0:=(hSW.cell (World.block_lt_of_cell? _ _ t0)).trans t0
               first | (go_simp;done) | (go_simp;with_reducible rfl)
              (try simp only [Act.put,Yd,Ye,Yf])
              refine wpAnyH_take (i:=1) (oi:=?oi14) (v:=?v14) ?h1x14 (by kernel_rfl) ?h3x14 (by kernel_rfl) ?h5x14 (Or.inl ⟨?h6x14,?h7x14⟩) hHeld ?h8x14
              case h1x14=>
               simp only [Ya,Yb,Yc];rfl
              case h3x14=>kernel_rfl
              case h5x14=>exact fun _ _ _ h=>h
              case h6x14=>rfl
              case h7x14=>
               intro Wz hSW;have p0:=(hSW.cell (World.block_lt_of_cell? _ _ p0)).trans p0;have p1:=(hSW.cell (World.block_lt_of_cell? _ _ p1)).trans p1;have t0:=(hSW.cell (World.block_lt_of_cell? _ _ t0)).trans t0
               first | (go_simp;done) | (go_simp;with_reducible rfl)
              (try simp only [Act.put,Yd,Ye,Yf])
              refine wpAnyH_take (i:=2) (oi:=?oi15) (v:=?v15) ?h1x15 (by kernel_rfl) ?h3x15 (by kernel_rfl) ?h5x15 (Or.inl ⟨?h6x15,?h7x15⟩) hHeld ?h8x15
              case h1x15=>
               simp only [Ya,Yb,Yc];rfl
              case h3x15=>kernel_rfl
              case h5x15=>exact fun _ _ _ h=>h
              case h6x15=>rfl
              case h7x15=>
               intro Wz hSW;have p0:=(hSW.cell (World.block_lt_of_cell? _ _ p0)).trans p0;have p1:=(hSW.cell (World.block_lt_of_cell? _ _ p1)).trans p1;have t0:=(hSW.cell (World.block_lt_of_cell? _ _ t0)).trans t0
               first | (go_simp;done) | (go_simp;with_reducible rfl)
              (try simp only [Act.put,Yd,Ye,Yf])
              refine wpAnyH_take (i:=3) (oi:=?oi16) (v:=?v16) ?h1x16 (by kernel_rfl) ?h3x16 (by kernel_rfl) ?h5x16 (Or.inl ⟨?h6x16,?h7x16⟩) hHeld ?h8x16
              case h1x16=>
               simp only [Ya,Yb,Yc];rfl
              case h3x16=>kernel_rfl
              case h5x16=>exact fun _ _ _ h=>h
              case h6x16=>rfl
              case h7x16=>
               intro Wz hSW;have p0:=(hSW.cell (World.block_lt_of_cell? _ _ p0)).trans p0;have p1:=(hSW.cell (World.block_lt_of_cell? _ _ p1)).trans p1;have t0:=(hSW.cell (World.block_lt_of_cell? _ _ t0)).trans t0
               first | (go_simp;done) | (go_simp;with_reducible rfl)
              (try simp only [Act.put,Yd,Ye,Yf])
              refine wpAnyH_take (i:=4) (oi:=?oi17) (v:=?v17) ?h1x17 (by kernel_rfl) ?h3x17 (by kernel_rfl) ?h5x17 (Or.inl ⟨?h6x17,?h7x17⟩) hHeld ?h8x17
              case h1x17=>
               simp only [Ya,Yb,Yc];rfl
              case h3x17=>kernel_rfl
              case h5x17=>exact fun _ _ _ h=>h
              case h6x17=>rfl
              case h7x17=>
               intro Wz hSW;have p0:=(hSW.cell (World.block_lt_of_cell? _ _ p0)).trans p0;have p1:=(hSW.cell (World.block_lt_of_cell? _ _ p1)).trans p1;have t0:=(hSW.cell (World.block_lt_of_cell? _ _ t0)).trans t0
               first | (go_simp;done) | (go_simp;with_reducible rfl)
              (try simp only [Act.put,Yd,Ye,Yf])
              refine wpAnyH_take (i:=5) (oi:=?oi18) (v:=?v18) ?h1x18 (by kernel_rfl) ?h3x18 (by kernel_rfl) ?h5x18 (Or.inl ⟨?h6x18,?h7x18⟩) hHeld ?h8x18
              case h1x18=>
               simp only [Ya,Yb,Yc];rfl
              case h3x18=>kernel_rfl
              case h5x18=>exact fun _ _ _ h=>h
              case h6x18=>rfl
              case h7x18=>
               intro Wz hSW;have p0:=(hSW.cell (World.block_lt_of_cell? _ _ p0)).trans p0;have p1:=(hSW.cell (World.block_lt_of_cell? _ _ p1)).trans p1;have t0:=(hSW.cell (World.block_lt_of_cell? _ _ t0)).trans t0
               first | (go_simp;done) | (go_simp;with_reducible rfl)
              (try simp only [Act.put,Yd,Ye,Yf])
              refine wpAnyH_take (i:=6) (oi:=?oi19) (v:=?v19) ?h1x19 (by kernel_rfl) ?h3x19 (by kernel_rfl) ?h5x19 (Or.inl ⟨?h6x19,?h7x19⟩) hHeld ?h8x19
              case h1x19=>
               simp only [Ya,Yb,Yc];rfl
              case h3x19=>kernel_rfl
              case h5x19=>exact fun _ _ _ h=>h
              case h6x19=>rfl
              case h7x19=>
               intro Wz hSW;have p0:=(hSW.cell (World.block_lt_of_cell? _ _ p0)).trans p0;have p1:=(hSW.cell (World.block_lt_of_cell? _ _ p1)).trans p1;have t0:=(hSW.cell (World.block_lt_of_cell? _ _ t0)).trans t0
               first | (go_simp;done) | (go_simp;with_reducible rfl)
              (try simp only [Act.put,Yd,Ye,Yf])
              refine wpAnyH_ready (rs:=[7]) (by kernel_rfl) (by simp) ?_;refine AllReadyH.cons (by rfl) (fun K hK=>?_) AllReadyH.nil
              go_simp
              (go_at_call 10;(with_reducible refine(HRN.out _ ?hx).mono ?_);(case hx=>exact hHeld);rintro e Wk ⟨⟨S7,c7,rfl,hr7,hc7⟩,hq⟩;have HBk:=Hd (hHeld.trans (hq.mono hHeld.size));have HRk:=Hd hr7;clear hr7 hc7;clear hq)
              go_wp2_with fail
              refine hK.out _ _ ?_ (fun hHeld=>?_)
              · exact HBk.out
              clear hK K
              (try simp only [Act.put,Yd,Ye,Yf])
              refine wpAnyH_take (i:=8) (oi:=?oi20) (v:=?v20) ?h1x20 (by kernel_rfl) ?h3x20 (by kernel_rfl) ?h5x20 (Or.inl ⟨?h6x20,?h7x20⟩) hHeld ?h8x20
              case h1x20=>
               simp only [Ya,Yb,Yc];rfl
              case h3x20=>kernel_rfl
              case h5x20=>exact fun _ _ _ h=>h
              case h6x20=>rfl
              case h7x20=>
               intro Wz hSW;have p0:=(hSW.cell (World.block_lt_of_cell? _ _ p0)).trans p0;have p1:=(hSW.cell (World.block_lt_of_cell? _ _ p1)).trans p1;have t0:=(hSW.cell (World.block_lt_of_cell? _ _ t0)).trans t0
               first | (go_simp;done) | (go_simp;with_reducible rfl)
              (try simp only [Act.put,Yd,Ye,Yf])
              refine wpAnyH_take (i:=9) (oi:=?oi21) (v:=?v21) ?h1x21 (by kernel_rfl) ?h3x21 (by kernel_rfl) ?h5x21 (Or.inl ⟨?h6x21,?h7x21⟩) hHeld ?h8x21
              case h1x21=>
               simp only [Ya,Yb,Yc];rfl
              case h3x21=>kernel_rfl
              case h5x21=>exact fun _ _ _ h=>h
              case h6x21=>rfl
              case h7x21=>
               intro Wz hSW;have p0:=(hSW.cell (World.block_lt_of_cell? _ _ p0)).trans p0;have p1:=(hSW.cell (World.block_lt_of_cell? _ _ p1)).trans p1;have t0:=(hSW.cell (World.block_lt_of_cell? _ _ t0)).trans t0
               first | (go_simp;done) | (go_simp;with_reducible rfl)
              (try simp only [Act.put,Yd,Ye,Yf])
              refine wpAnyH_take (i:=10) (oi:=?oi22) (v:=?v22) ?h1x22 (by kernel_rfl) ?h3x22 (by kernel_rfl) ?h5x22 (Or.inl ⟨?h6x22,?h7x22⟩) hHeld ?h8x22
              case h1x22=>
               simp only [Ya,Yb,Yc];rfl
              case h3x22=>kernel_rfl
              case h5x22=>exact fun _ _ _ h=>h
              case h6x22=>rfl
              case h7x22=>
               intro Wz hSW;have p0:=(hSW.cell (World.block_lt_of_cell? _ _ p0)).trans p0;have p1:=(hSW.cell (World.block_lt_of_cell? _ _ p1)).trans p1;have t0:=(hSW.cell (World.block_lt_of_cell? _ _ t0)).trans t0
               first | (go_simp;done) | (go_simp;with_reducible rfl)
              (try simp only [Act.put,Yd,Ye,Yf])
              refine wpAnyH_take (i:=11) (oi:=?oi23) (v:=?v23) ?h1x23 (by kernel_rfl) ?h3x23 (by kernel_rfl) ?h5x23 (Or.inl ⟨?h6x23,?h7x23⟩) hHeld ?h8x23
              case h1x23=>
               simp only [Ya,Yb,Yc];rfl
              case h3x23=>kernel_rfl
              case h5x23=>exact fun _ _ _ h=>h
              case h6x23=>rfl
              case h7x23=>
               intro Wz hSW;have p0:=(hSW.cell (World.block_lt_of_cell? _ _ p0)).trans p0;have p1:=(hSW.cell (World.block_lt_of_cell? _ _ p1)).trans p1;have t0:=(hSW.cell (World.block_lt_of_cell? _ _ t0)).trans t0
               first | (go_simp;done) | (go_simp;with_reducible rfl)
              (try simp only [Act.put,Yd,Ye,Yf])
              refine wpAnyH_take (i:=12) (oi:=?oi24) (v:=?v24) ?h1x24 (by kernel_rfl) ?h3x24 (by kernel_rfl) ?h5x24 (Or.inl ⟨?h6x24,?h7x24⟩) hHeld ?h8x24
              case h1x24=>
               simp only [Ya,Yb,Yc];rfl
              case h3x24=>kernel_rfl
              case h5x24=>exact fun _ _ _ h=>h
              case h6x24=>rfl
              case h7x24=>
               intro Wz hSW;have p0:=(hSW.cell (World.block_lt_of_cell? _ _ p0)).trans p0;have p1:=(hSW.cell (World.block_lt_of_cell? _ _ p1)).trans p1;have t0:=(hSW.cell (World.block_lt_of_cell? _ _ t0)).trans t0
               first | (go_simp;done) | (go_simp;with_reducible rfl)
              (try simp only [Act.put,Yd,Ye,Yf])
              refine wpAnyH_done (by kernel_rfl) ?_ _;have hrk2:=HRk.out;have HSK:=Hd (refSame17 S7 k c7 (row.take k) (some ⟨rb,ro,none⟩) k c9 (row.take k) Wk HRk.out ((HRK.out.below HBk.out).take (by omega)));rw [sameC_refl] at HSK;clear p0 p1 t0 HRN
              go_wp2_with fail
              refine HSK.out.mono ?_;rintro e w9 ⟨rfl,hb9⟩;have HB9:=Hd (HBk.out.trans (hb9.mono HBk.out.size));clear hb9 HSK
              go_wp2_with fail
              go_roundw
              case rel=>exact⟨k+1,by omega,by go_num,HBK.out.trans (HB9.out.mono HBK.out.size)⟩
              case measure=>simp [intOf];omega
            · obtain rfl:k=m:=by omega
              clear hbk
              go_wp2_with fail
              go_roundw
              case rel=>exact⟨j+1,by omega,by go_num,HLn2.out.trans (HBK.out.mono HLn2.out.size)⟩
              case measure=>simp [intOf];omega
          | false=>
           have hd1:decide ((0:Int)<(m:Int))=true:=by rw [hd0,hb0];rfl
           have hd2:0<m:=by have:=of_decide_eq_true hd1;omega
           have hd3:decide (0<m)=true:=decide_eq_true hd2
           have hei:don.toList.isEmpty=false:=by
            cases hh:don.toList with
            | nil=>rw [hh] at hb0;cases hb0
            | cons a b=>rfl
           clear hd0
           go_wp2_with fail
           go_loopw [8] (fun c wr=>∃ k:Nat,k≤m∧c=.int .i64 k∧Below Wn.heap.size Wn wr) (fun c _=>m-(intOf c).toNat)
           case atStart=>exact⟨0,Nat.zero_le _,rfl,Below.refl _ _⟩
           case round=>
            obtain⟨k,hk,rfl,hbk⟩:=hrel;have HBK:=Hd hbk;have hb8:=HBn2.out.trans (hbk.mono HBn2.out.size);have HB8:=Hd hb8;have HW8:=Hd (HB0.out.trans (hb8.mono HB0.out.size));have HRK:=Hd (HRg.out.below hbk);have p0:=HP.out wr hb8 0;have p1:=HP.out wr hb8 1;simp only [Ya,Yb,Yc] at p0 p1;clear hb8
            by_cases hlk:k<m
            · obtain⟨rb,ro,hS,hrb,hrc⟩:=RdS.at_ HRg.out (by omega);obtain⟨t0,-⟩:=(hrc k hlk).two;have t0:=(hbk.cell (p:=⟨rb,ro+k*2,none⟩) hrb).trans t0;subst hS;have HRX:=Hd fun W (hb:Below wr.heap.size wr W)=>HRI.out (row[k]?.getD default).nm W (HW8.out.trans (hb.mono HW8.out.size));rw [HAH.out k (by first | exact hlk | (rw [HML.out];exact hlk))] at HRX;have hlt2:(row.take k).length=k:=by rw [List.length_take,HML.out];omega
              have HRN:=Hd fun W (hb:Below wr.heap.size wr W)=>(HRX.out W hb).mono fun e w' (h:_∧_)=>(show(∃ A c,e=.returned (.tuple #[.slice A k c,.bool true])∧RdC w' A k (row.take k)∧k≤c)∧Below W.heap.size W w' from⟨by obtain⟨A0,c0,h1,h2,h3⟩:=h.2;rw [hlt2] at h1 h2 h3;exact⟨A0,c0,h1,h2,h3⟩,h.1⟩);clear hbk hrc HRX;generalize (row[k]?.getD default).nm=rnm at *;have hkm:(k:Int)<(m:Int):=by omega
              have hkc:(k:Int)≤(c9:Int):=by omega
              go_upto_region 16 with(fail)
              refine wp_region_held_drew (S:=fun Wz=>Below wr.heap.size wr Wz) (by kernel_rfl) ?_ (fun hHeld=>?_)
              · exact(Below.refl wr.heap.size wr).drew
              refine wpAnyH_take (i:=0) (oi:=?oi25) (v:=?v25) ?h1x25 (by kernel_rfl) ?h3x25 (by kernel_rfl) ?h5x25 (Or.inl ⟨?h6x25,?h7x25⟩) hHeld ?h8x25
              case h1x25=>
               simp only [Ya,Yb,Yc];rfl
              case h3x25=>kernel_rfl
              case h5x25=>exact fun _ _ _ h=>h
              case h6x25=>rfl
              case h7x25=>
               intro Wz hSW;have p0:=(hSW.cell (World.block_lt_of_cell? _ _ p0)).trans p0;have p1:=(hSW.cell (World.block_lt_of_cell? _ _ p1)).trans p1;have t0:=(hSW.cell (World.block_lt_of_cell? _ _ t0)).trans t0
               first | (go_simp;done) | (go_simp;with_reducible rfl)
              (try simp only [Act.put,Yd,Ye,Yf])
              refine wpAnyH_take (i:=1) (oi:=?oi26) (v:=?v26) ?h1x26 (by kernel_rfl) ?h3x26 (by kernel_rfl) ?h5x26 (Or.inl ⟨?h6x26,?h7x26⟩) hHeld ?h8x26
              case h1x26=>
               simp only [Ya,Yb,Yc];rfl
              case h3x26=>kernel_rfl
              case h5x26=>exact fun _ _ _ h=>h
              case h6x26=>rfl
              case h7x26=>
               intro Wz hSW;have p0:=(hSW.cell (World.block_lt_of_cell? _ _ p0)).trans p0;have p1:=(hSW.cell (World.block_lt_of_cell? _ _ p1)).trans p1;have t0:=(hSW.cell (World.block_lt_of_cell? _ _ t0)).trans t0
               first | (go_simp;done) | (go_simp;with_reducible rfl)
              (try simp only [Act.put,Yd,Ye,Yf])
              refine wpAnyH_take (i:=2) (oi:=?oi27) (v:=?v27) ?h1x27 (by kernel_rfl) ?h3x27 (by kernel_rfl) ?h5x27 (Or.inl ⟨?h6x27,?h7x27⟩) hHeld ?h8x27
              case h1x27=>
               simp only [Ya,Yb,Yc];rfl
              case h3x27=>kernel_rfl
              case h5x27=>exact fun _ _ _ h=>h
              case h6x27=>rfl
              case h7x27=>
               intro Wz hSW;have p0:=(hSW.cell (World.block_lt_of_cell? _ _ p0)).trans p0;have p1:=(hSW.cell (World.block_lt_of_cell? _ _ p1)).trans p1;have t0:=(hSW.cell (World.block_lt_of_cell? _ _ t0)).trans t0
               first | (go_simp;done) | (go_simp;with_reducible rfl)
              (try simp only [Act.put,Yd,Ye,Yf])
              refine wpAnyH_take (i:=3) (oi:=?oi28) (v:=?v28) ?h1x28 (by kernel_rfl) ?h3x28 (by kernel_rfl) ?h5x28 (Or.inl ⟨?h6x28,?h7x28⟩) hHeld ?h8x28
              case h1x28=>
               simp only [Ya,Yb,Yc];rfl
              case h3x28=>kernel_rfl
              case h5x28=>exact fun _ _ _ h=>h
              case h6x28=>rfl
              case h7x28=>
               intro Wz hSW;have p0:=(hSW.cell (World.block_lt_of_cell? _ _ p0)).trans p0;have p1:=(hSW.cell (World.block_lt_of_cell? _ _ p1)).trans p1;have t0:=(hSW.cell (World.block_lt_of_cell? _ _ t0)).trans t0
               first | (go_simp;done) | (go_simp;with_reducible rfl)
              (try simp only [Act.put,Yd,Ye,Yf])
              refine wpAnyH_take (i:=4) (oi:=?oi29) (v:=?v29) ?h1x29 (by kernel_rfl) ?h3x29 (by kernel_rfl) ?h5x29 (Or.inl ⟨?h6x29,?h7x29⟩) hHeld ?h8x29
              case h1x29=>
               simp only [Ya,Yb,Yc];rfl
              case h3x29=>kernel_rfl
              case h5x29=>exact fun _ _ _ h=>h
              case h6x29=>rfl
              case h7x29=>
               intro Wz hSW;have p0:=(hSW.cell (World.block_lt_of_cell? _ _ p0)).trans p0;have p1:=(hSW.cell (World.block_lt_of_cell? _ _ p1)).trans p1;have t0:=(hSW.cell (World.block_lt_of_cell? _ _ t0)).trans t0
               first | (go_simp;done) | (go_simp;with_reducible rfl)
              (try simp only [Act.put,Yd,Ye,Yf])
              refine wpAnyH_take (i:=5) (oi:=?oi30) (v:=?v30) ?h1x30 (by kernel_rfl) ?h3x30 (by kernel_rfl) ?h5x30 (Or.inl ⟨?h6x30,?h7x30⟩) hHeld ?h8x30
              case h1x30=>
               simp only [Ya,Yb,Yc];rfl
              case h3x30=>kernel_rfl
              case h5x30=>exact fun _ _ _ h=>h
              case h6x30=>rfl
              case h7x30=>
               intro Wz hSW;have p0:=(hSW.cell (World.block_lt_of_cell? _ _ p0)).trans p0;have p1:=(hSW.cell (World.block_lt_of_cell? _ _ p1)).trans p1;have t0:=(hSW.cell (World.block_lt_of_cell? _ _ t0)).trans t0
               first | (go_simp;done) | (go_simp;with_reducible rfl)
              (try simp only [Act.put,Yd,Ye,Yf])
              refine wpAnyH_take (i:=6) (oi:=?oi31) (v:=?v31) ?h1x31 (by kernel_rfl) ?h3x31 (by kernel_rfl) ?h5x31 (Or.inl ⟨?h6x31,?h7x31⟩) hHeld ?h8x31
              case h1x31=>
               simp only [Ya,Yb,Yc];rfl
              case h3x31=>kernel_rfl
              case h5x31=>exact fun _ _ _ h=>h
              case h6x31=>rfl
              case h7x31=>
               intro Wz hSW;have p0:=(hSW.cell (World.block_lt_of_cell? _ _ p0)).trans p0;have p1:=(hSW.cell (World.block_lt_of_cell? _ _ p1)).trans p1;have t0:=(hSW.cell (World.block_lt_of_cell? _ _ t0)).trans t0
               first | (go_simp;done) | (go_simp;with_reducible rfl)
              (try simp only [Act.put,Yd,Ye,Yf])
              refine wpAnyH_ready (rs:=[7]) (by kernel_rfl) (by simp) ?_;refine AllReadyH.cons (by rfl) (fun K hK=>?_) AllReadyH.nil
              go_simp
              (go_at_call 10;(with_reducible refine(HRN.out _ ?hx).mono ?_);(case hx=>exact hHeld);rintro e Wk ⟨⟨S7,c7,rfl,hr7,hc7⟩,hq⟩;have HBk:=Hd (hHeld.trans (hq.mono hHeld.size));have HRk:=Hd hr7;clear hr7 hc7;clear hq)
              go_wp2_with fail
              refine hK.out _ _ ?_ (fun hHeld=>?_)
              · exact HBk.out
              clear hK K
              (try simp only [Act.put,Yd,Ye,Yf])
              refine wpAnyH_take (i:=8) (oi:=?oi32) (v:=?v32) ?h1x32 (by kernel_rfl) ?h3x32 (by kernel_rfl) ?h5x32 (Or.inl ⟨?h6x32,?h7x32⟩) hHeld ?h8x32
              case h1x32=>
               simp only [Ya,Yb,Yc];rfl
              case h3x32=>kernel_rfl
              case h5x32=>exact fun _ _ _ h=>h
              case h6x32=>rfl
              case h7x32=>
               intro Wz hSW;have p0:=(hSW.cell (World.block_lt_of_cell? _ _ p0)).trans p0;have p1:=(hSW.cell (World.block_lt_of_cell? _ _ p1)).trans p1;have t0:=(hSW.cell (World.block_lt_of_cell? _ _ t0)).trans t0
               first | (go_simp;done) | (go_simp;with_reducible rfl)
              (try simp only [Act.put,Yd,Ye,Yf])
              refine wpAnyH_take (i:=9) (oi:=?oi33) (v:=?v33) ?h1x33 (by kernel_rfl) ?h3x33 (by kernel_rfl) ?h5x33 (Or.inl ⟨?h6x33,?h7x33⟩) hHeld ?h8x33
              case h1x33=>
               simp only [Ya,Yb,Yc];rfl
              case h3x33=>kernel_rfl
              case h5x33=>exact fun _ _ _ h=>h
              case h6x33=>rfl
              case h7x33=>
               intro Wz hSW;have p0:=(hSW.cell (World.block_lt_of_cell? _ _ p0)).trans p0;have p1:=(hSW.cell (World.block_lt_of_cell? _ _ p1)).trans p1;have t0:=(hSW.cell (World.block_lt_of_cell? _ _ t0)).trans t0
               first | (go_simp;done) | (go_simp;with_reducible rfl)
              (try simp only [Act.put,Yd,Ye,Yf])
              refine wpAnyH_take (i:=10) (oi:=?oi34) (v:=?v34) ?h1x34 (by kernel_rfl) ?h3x34 (by kernel_rfl) ?h5x34 (Or.inl ⟨?h6x34,?h7x34⟩) hHeld ?h8x34
              case h1x34=>
               simp only [Ya,Yb,Yc];rfl
              case h3x34=>kernel_rfl
              case h5x34=>exact fun _ _ _ h=>h
              case h6x34=>rfl
              case h7x34=>
               intro Wz hSW;have p0:=(hSW.cell (World.block_lt_of_cell? _ _ p0)).trans p0;have p1:=(hSW.cell (World.block_lt_of_cell? _ _ p1)).trans p1;have t0:=(hSW.cell (World.block_lt_of_cell? _ _ t0)).trans t0
               first | (go_simp;done) | (go_simp;with_reducible rfl)
              (try simp only [Act.put,Yd,Ye,Yf])
              refine wpAnyH_take (i:=11) (oi:=?oi35) (v:=?v35) ?h1x35 (by kernel_rfl) ?h3x35 (by kernel_rfl) ?h5x35 (Or.inl ⟨?h6x35,?h7x35⟩) hHeld ?h8x35
              case h1x35=>
               simp only [Ya,Yb,Yc];rfl
              case h3x35=>kernel_rfl
              case h5x35=>exact fun _ _ _ h=>h
              case h6x35=>rfl
              case h7x35=>
               intro Wz hSW;have p0:=(hSW.cell (World.block_lt_of_cell? _ _ p0)).trans p0;have p1:=(hSW.cell (World.block_lt_of_cell? _ _ p1)).trans p1;have t0:=(hSW.cell (World.block_lt_of_cell? _ _ t0)).trans t0
               first | (go_simp;done) | (go_simp;with_reducible rfl)
              (try simp only [Act.put,Yd,Ye,Yf])
              refine wpAnyH_take (i:=12) (oi:=?oi36) (v:=?v36) ?h1x36 (by kernel_rfl) ?h3x36 (by kernel_rfl) ?h5x36 (Or.inl ⟨?h6x36,?h7x36⟩) hHeld ?h8x36
              case h1x36=>
               simp only [Ya,Yb,Yc];rfl
              case h3x36=>kernel_rfl
              case h5x36=>exact fun _ _ _ h=>h
              case h6x36=>rfl
              case h7x36=>
               intro Wz hSW;have p0:=(hSW.cell (World.block_lt_of_cell? _ _ p0)).trans p0;have p1:=(hSW.cell (World.block_lt_of_cell? _ _ p1)).trans p1;have t0:=(hSW.cell (World.block_lt_of_cell? _ _ t0)).trans t0
               first | (go_simp;done) | (go_simp;with_reducible rfl)
              (try simp only [Act.put,Yd,Ye,Yf])
              refine wpAnyH_done (by kernel_rfl) ?_ _;have hrk2:=HRk.out;have HSK:=Hd (refSame17 S7 k c7 (row.take k) (some ⟨rb,ro,none⟩) k c9 (row.take k) Wk HRk.out ((HRK.out.below HBk.out).take (by omega)));rw [sameC_refl] at HSK;clear p0 p1 t0 HRN
              go_wp2_with fail
              refine HSK.out.mono ?_;rintro e w9 ⟨rfl,hb9⟩;have HB9:=Hd (HBk.out.trans (hb9.mono HBk.out.size));clear hb9 HSK
              go_wp2_with fail
              go_roundw
              case rel=>exact⟨k+1,by omega,by go_num,HBK.out.trans (HB9.out.mono HBK.out.size)⟩
              case measure=>simp [intOf];omega
            · obtain rfl:k=m:=by omega
              clear hbk
              go_wp2_with fail
              go_roundw
              case rel=>exact⟨j+1,by omega,by go_num,HLn2.out.trans (HBK.out.mono HLn2.out.size)⟩
              case measure=>simp [intOf];omega
        · obtain rfl:j=an:=by omega
          clear hbi
          go_wp2_with fail
          go_roundw
          case rel=>exact⟨i+1,by omega,by go_num,HL5.out.trans (HBI.out.mono HL5.out.size)⟩
          case measure=>simp [intOf];omega
     · obtain rfl:i=pn:=by omega
       clear hbw
       go_wp2_with fail
       refine(HLV.out wr).mono ?_;rintro e wl ⟨rfl,hbl⟩;have HBL:=Hd (HB3.out.trans (hbl.mono HB3.out.size));clear hbl
       go_wp2_with fail
       go_ret
       exact⟨rfl,HB0.out.trans (HBL.out.mono HB0.out.size)⟩
  all_goals
   have ha2:_:=beq_eq_false_iff_ne.2 ha;clear hb2
   go_wp2_with fail
   refine(HLV.out w2).mono ?_;rintro e wl ⟨rfl,hbl⟩;have HBL:=Hd (HB2.out.trans (hbl.mono HB2.out.size));clear hbl
   go_wp2_with fail
   go_ret
   exact⟨rfl,HB0.out.trans (HBL.out.mono HB0.out.size)⟩
end
end Go.Proofs.YtkbpdoomhfkngaaGreat
