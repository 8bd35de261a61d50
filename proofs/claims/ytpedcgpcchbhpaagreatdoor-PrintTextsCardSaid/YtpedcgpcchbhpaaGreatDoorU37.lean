/- Parts of the proof: PnB, PnC. Conditions: each theorem's own. -/
import Derived.Test.YtpedcgpcchbhpaaGreatDoorU32
import Derived.Test.YtpedcgpcchbhpaaGreatDoorU36
namespace Go.Proofs.YtpedcgpcchbhpaaGreatDoor
set_option linter.unusedVariables false
set_option linter.unusedSimpArgs false
set_option maxRecDepth 100000
set_option maxHeartbeats 40000000
section
open Go.RowKit Go.Sort
theorem Keep.drewN{B b:Nat}{w w':World}(h:Keep B b w w') (n:Nat):Keep B b w (w'.drewN n):=⟨below_drewN h.1 n,fun k o a c d=>h.2 k o a c d⟩
theorem Keep.alloc{B b:Nat}{w w':World}(h:Keep B b w w') (hB:B≤w'.heap.size) (o:Obj):Keep B b w (w'.alloc o):=⟨h.1.alloc hB o,h.2.alloc o⟩
theorem Keep.behind{B b:Nat}{w w1 w2:World}(h:Keep B b w w1) (hb:Below w1.heap.size w1 w2) (hB:B≤w1.heap.size):Keep B b w w2:=h.trans (Keep.of_below hb hB)
theorem Keep.block{B b:Nat}{w w':World}(h:Keep B b w w'){g:Nat}{cs:Array Value}{T:TypeId}{fz:Nat × Nat}(hg:w.heap[g]?=some (.cells cs T fz)) (hne:g≠b) (hT:T≠5):w'.heap[g]?=some (.cells cs T fz):=
 h.2 g _ hg (fun e=>hne (Option.some.inj e)) fun _ _ e=>by injection e with _ e _;exact hT e
theorem Keep.cells{B b:Nat}{w w':World}(h:Keep B b w w'){g:Nat}{cs:Array Value}{T:TypeId}{fz:Nat × Nat}(hg:w.heap[g]?=some (.cells cs T fz)) (hne:g≠b) (hT:T≠5) (j:Nat):w'.cell? ⟨g,j,none⟩=cs[j]? :=
 Lib.cell_of_heap (h.block hg hne hT) j
theorem LnAt.drewN{B b:Nat}{l:List UInt8}{w:World}(h:LnAt B b l w) (n:Nat):LnAt B b l (w.drewN n):=h.below (below_drewN (Below.refl _ _) n)
theorem lnLit(B b:Nat) (l:List UInt8) (ss:List ByteArray) (k:Nat) (cs:Array Value) (w:World) (h:LnAt B b l w) (hcs:cs=(ss.map Value.string).toArray) (hk:k=ss.length)
 (hlen:l.length+(flatB ss).length+1≤140737488355328) (hn:k≤1000000):
 Calls Tryz.prog 47 #[.pointer (some ⟨b,0,none⟩),.slice (some ⟨w.heap.size,0,none⟩) k k] (w.alloc (.cells cs 9)) fun e w'=>e=.returned (.tuple #[])∧LnAt B b (l++flatB ss++[10]) w'∧Keep B b w w':=by
 subst hcs hk;have hb:=(Below.refl w.heap.size w).alloc (Nat.le_refl _) (.cells (ss.map Value.string).toArray 9);refine(bdLine B b w.heap.size ss.length l ss (0,0) _ (h.below hb) (heap_alloc_new w _) (Nat.ne_of_gt h.lt) hlen hn).mono ?_;rintro e w' ⟨rfl,h1,h2⟩;exact⟨rfl,h1,(Keep.of_below hb h.le).trans h2⟩
theorem lnEnum(B b:Nat) (l:List UInt8) (nm:ByteArray) (A:Option Addr) (n c:Nat) (cs:List ByteArray) (w:World) (h:LnAt B b l w) (hR:RdT w A n cs) (hnc:n≤c) (hn:n≤1000) (hs:∀ s∈cs,s.size≤1000) (hnm:nm.size≤1000) (hl:l.length≤1000000000000):
 Calls Tryz.prog 21 #[.pointer (some ⟨b,0,none⟩),.agg #[.string nm,.slice A n c]] w fun e w'=>e=.returned (.tuple #[])∧LnAt B b (l++enumT (nm,cs)) w'∧Keep B b w w':=by
 have hln:=hR.len
 have hjl:=joinW_len (s:=44) (m:=1000) (l:=cs.map strL) (fun a ha=>by
  obtain⟨s,hs',rfl⟩:=List.mem_map.1 ha;exact hs s hs')
 rw [List.length_map,hln] at hjl;have hje:Lib.join (cs.map (·.data.toList)) [44,32]=joinW 44 (cs.map strL):=by rw [join_W];rfl
 have HJ:=Hd fun w1 (r:RdT w1 A n cs)=>libJoin A n c cs ⟨#[44,32]⟩ w1 r hnc (by omega) (by
  show(Lib.join _ [44,32]).length≤_
  rw [hje];omega)
 rw [show(⟨(Lib.join (cs.map (·.data.toList)) (⟨#[44,32]⟩:ByteArray).data.toList).toArray⟩:ByteArray)=ofB (joinW 44 (cs.map strL)) by
  show(⟨(Lib.join _ [44,32]).toArray⟩:ByteArray)=_
  rw [hje];rfl] at HJ
 have hjs:(ofB (joinW 44 (cs.map strL))).size≤1002000:=by rw [ofB_sizeS];omega
 have HE:=Hd (show l++flatB [⟨#[101,110,117,109,32]⟩,nm,⟨#[32,123,32]⟩,ofB (joinW 44 (cs.map strL)),⟨#[32,125,59]⟩]++[10]=l++enumT (nm,cs) by
  simp [flatB,enumT,ofB,enumW]
  rfl)
 generalize ofB (joinW 44 (cs.map strL))=jt at *;generalize l++enumT (nm,cs)=out at *;have HL:=Hd h;have HR:=Hd hR;have HB:=Hd h.le;have hb1:=(Below.refl w.heap.size w).alloc (Nat.le_refl _) (.cells #[.string nm,.slice A n c] 60);have HX:=Hd (Keep.of_below hb1 h.le (b:=b))
 have HC:=Hd fun W (k:Keep B b (w.alloc (.cells #[.string nm,.slice A n c] 60)) W)=>(show W.cell? ⟨w.heap.size,0,none⟩=some (.string nm)∧W.cell? ⟨w.heap.size,1,none⟩=some (.slice A n c) from
  ⟨k.cells (heap_alloc_new w _) (Nat.ne_of_gt h.lt) (by decide) 0,k.cells (heap_alloc_new w _) (Nat.ne_of_gt h.lt) (by decide) 1⟩)
 have HLL:=Hd fun W (h:LnAt B b l W)=>lnLit B b l [⟨#[101,110,117,109,32]⟩,nm,⟨#[32,123,32]⟩,jt,⟨#[32,125,59]⟩] 5 #[.string ⟨#[101,110,117,109,32]⟩,.string nm,.string ⟨#[32,123,32]⟩,.string jt,.string ⟨#[32,125,59]⟩] W h rfl rfl (by
  have h1:nm.data.toList.length=nm.size:=by simp
  have h2:jt.data.toList.length=jt.size:=by simp
  simp only [flatB,List.flatMap_cons,List.flatMap_nil,List.length_append,List.length_cons,List.length_nil];omega) (by decide)
 rw [HE.out] at HLL;have HBW:=Hd hb1;clear h hR hnc hs hjl hje hb1 HE
 go_enter Tryz.func21,Tryz.ntmps21
 go_upto_region 1 with(fail)
 generalize hw1:w.alloc _=w1 at *;have HK:=Hd (Keep.refl B b w1);have HB1:=Hd (Nat.le_trans HB.out HBW.out.size);obtain⟨p0,p1⟩:=HC.out w1 HK.out
 go_region_held3 (fun W=>W.cell? ⟨w.heap.size,0,none⟩=some (.string nm)∧W.cell? ⟨w.heap.size,1,none⟩=some (.slice A n c)) (first | exact HC.out _ HK.out | exact HC.out _ (HK.out.drewN _) | exact HC.out _ (HK.out.alloc HB1.out _))
  ((first
    | (go_at_call 48;refine(HJ.out _ ((HR.out.below HBW.out).drewN 1)).mono ?_;rintro r Wa ⟨rfl,hba⟩;have HLa:=Hd (((HL.out.below HBW.out).drewN 1).below hba);have HK:=Hd ((HK.out.drewN 1).behind hba HB1.out);have HB1:=Hd (Nat.le_trans HB1.out hba.size);clear hba)
    | (go_at_call 47;refine(HLL.out _ HLa.out).mono ?_;rintro r Wd ⟨rfl,hld,hkd⟩;have HLd:=Hd hld;have HK:=Hd (HK.out.trans hkd);clear hld hkd)))
 go_wp2_with fail
 go_end0
 exact⟨rfl,HLd.out,HX.out.trans HK.out⟩
end
section
open Go.RowKit Go.Sort
theorem Keep.drew{B b:Nat}{w w':World}(h:Keep B b w w'):Keep B b w w'.drew:=⟨Below.drew h.1,h.2.drew⟩
theorem LnAt.drew{B b:Nat}{l:List UInt8}{w:World}(h:LnAt B b l w):LnAt B b l w.drew:=h.below (Below.drew (Below.refl _ _))
theorem behind0{w0 w w':World}{B b:Nat}(h0:Below w0.heap.size w0 w) (hB:w0.heap.size≤B) (k:Keep B b w w'):Below w0.heap.size w0 w':=h0.trans (k.1.mono hB)
theorem lnNode(es:List En) (E:Option Addr) (ec:Nat) (x:Nd) (A1:Option Addr) (c1:Nat) (A2:Option Addr) (c2:Nat) (A3:Option Addr) (c3:Nat) (A4:Option Addr) (c4:Nat) (B b:Nat) (l:List UInt8) (w0 w:World)
 (hE:RdE w0 E es.length es) (hsm:EsShort es) (hr:rdNC w0 x A1 A2 A3 A4) (hs:ShortN x) (hT:Tab w0) (h0:Below w0.heap.size w0 w) (hB0:w0.heap.size≤B) (h:LnAt B b l w) (hl:l.length≤1000000000000):
 Calls Tryz.prog 22 #[.pointer (some ⟨b,0,none⟩),.slice E es.length ec,.agg (ndA x A1 c1 A2 c2 A3 c3 A4 c4)] w fun e w'=>e=.returned (.tuple #[])∧LnAt B b (l++nodeG (tyL es) x) w'∧Keep B b w w':=by
 have hi1:=hs.2.1;have hi2:=hs.2.2.1;have hi3:=hs.2.2.2.1;have hi4:=hs.2.2.2.2.1;have hok:∀ d∈x.all,ShortD d:=hs.2.2.2.2.2.1;have hq:∀ q∈x.eqs,ShortQ q:=hs.2.2.2.2.2.2;have a1:=declsT_len hsm (l:=x.ins) fun d hd=>hok d (by simp [Nd.all,hd]);have a2:=declsT_len hsm (l:=x.outs) fun d hd=>hok d (by simp [Nd.all,hd]);have a3:=declsT_len hsm (l:=x.vars) fun d hd=>hok d (by simp [Nd.all,hd]);have HD1:=Hd fun W (a:Below w0.heap.size w0 W)=>pnDecls es E ec A1 x.ins.length c1 x.ins W (hE.below a) hsm (hr.below a).1.1 hi1 (fun d hd=>hok d (by simp [Nd.all,hd])) (hT.below a);have HD2:=Hd fun W (a:Below w0.heap.size w0 W)=>pnDecls es E ec A2 x.outs.length c2 x.outs W (hE.below a) hsm (hr.below a).1.2.1 hi2 (fun d hd=>hok d (by simp [Nd.all,hd])) (hT.below a);have HD3:=Hd fun W (a:Below w0.heap.size w0 W)=>pnDecls es E ec A3 x.vars.length c3 x.vars W (hE.below a) hsm (hr.below a).1.2.2.1 hi3 (fun d hd=>hok d (by simp [Nd.all,hd])) (hT.below a);have HRC:=Hd fun W (a:Below w0.heap.size w0 W)=>(hr.below a).2
 have HEX:=Hd fun(k:Nat) (hk:k<x.eqs.length) A ca F cf W (a:Below w0.heap.size w0 W) (r:rdX W (x.eqs[k]?.getD default).x A F) (ok:OkX (x.eqs[k]?.getD default).x)=>
  shExpr (x.eqs[k]?.getD default).x A ca F cf W r
   (by have:=hq _ (List.getElem_mem hk);rw [List.getElem?_eq_getElem hk];exact this.2.2.1)
   (by have:=hq _ (List.getElem_mem hk);rw [List.getElem?_eq_getElem hk];exact this.2.2.2)
   (num_of ok (by have:=hq _ (List.getElem_mem hk);rw [List.getElem?_eq_getElem hk];exact this.2.2.2)) (hT.below a)
 have HQN:=Hd fun(k:Nat) (hk:k<x.eqs.length)=>(show ShortQ (x.eqs[k]?.getD default) by
  rw [List.getElem?_eq_getElem hk,Option.getD_some];exact hq _ (List.getElem_mem _))
 have HQS:=Hd fun(k:Nat) (hk:k<x.eqs.length)=>eqs_snoc hk;have HHD:=Hd (nodeG_head (tyL es) x);have hhd:=headG_len hsm hs
 have HOKQ:=Hd (show ∀ k,k<x.eqs.length→OkX (x.eqs[k]?.getD default).x from fun k hk=>by
  obtain⟨b,off,B,c,A',ca,B',cb,-,-,⟨-,-,ok,-⟩,-⟩:=qn_atC hr.2 hk;exact ok)
 have HQL:=Hd fun k=>eqs_len (l:=x.eqs) (fun q hqq=>by
  obtain⟨i,hi,rfl⟩:=List.getElem_of_mem hqq;have ok:=HOKQ.out i hi;rw [List.getElem?_eq_getElem hi] at ok;exact eqG_len (hq _ hqq) (txX_len (num_of ok (hq _ hqq).2.2.2))) k
 have HHEAD:=Hd (show headG (tyL es) x=nodeW++(x.nm.data.toList++40::(declsT (tyL es) x.ins++41::(retW++40::(declsT (tyL es) x.outs++41::10::(varsT (tyL es) x.vars++letW))))) from rfl);have HVT:=Hd (show varsT (tyL es) x.vars=if x.vars=[] then [] else varW++(declsT (tyL es) x.vars++[59,10]) from rfl);have hns:=hs.1;clear hE hsm hr hs hok hq hT HOKQ;have s1:(ofB (declsT (tyL es) x.ins)).size≤4002000:=by rw [ofB_sizeS];omega
 have s2:(ofB (declsT (tyL es) x.outs)).size≤4002000:=by rw [ofB_sizeS];omega
 have s3:(ofB (declsT (tyL es) x.vars)).size≤4002000:=by rw [ofB_sizeS];omega
 have HH0:=Hd fun(hv:x.vars=[])=>(show l++flatB [⟨#[110,111,100,101,32]⟩,x.nm,⟨#[40]⟩,ofB (declsT (tyL es) x.ins),⟨#[41,32,114,101,116,117,114,110,115,32,40]⟩,ofB (declsT (tyL es) x.outs),⟨#[41]⟩]++[10]++flatB [⟨#[108,101,116]⟩]++[10]=l++headG (tyL es) x by
  rw [HHEAD.out,HVT.out,if_pos hv]
  simp [flatB,ofB,nodeW,retW,letW])
 have HH1:=Hd fun(hv:¬ x.vars=[])=>(show l++flatB [⟨#[110,111,100,101,32]⟩,x.nm,⟨#[40]⟩,ofB (declsT (tyL es) x.ins),⟨#[41,32,114,101,116,117,114,110,115,32,40]⟩,ofB (declsT (tyL es) x.outs),⟨#[41]⟩]++[10]++flatB [⟨#[118,97,114,32]⟩,ofB (declsT (tyL es) x.vars),⟨#[59]⟩]++[10]++flatB [⟨#[108,101,116]⟩]++[10]=l++headG (tyL es) x by
  rw [HHEAD.out,HVT.out,if_neg hv]
  simp [flatB,ofB,nodeW,retW,letW,varW])
 clear HHEAD HVT a1 a2 a3;generalize headG (tyL es) x=hd at *;generalize nodeG (tyL es) x=ng at *;generalize ofB (declsT (tyL es) x.ins)=d1 at *;generalize ofB (declsT (tyL es) x.outs)=d2 at *;generalize ofB (declsT (tyL es) x.vars)=d3 at *;have e1:d1.data.toList.length=d1.size:=by simp
 have e2:d2.data.toList.length=d2.size:=by simp
 have e3:d3.data.toList.length=d3.size:=by simp
 have e4:x.nm.data.toList.length=x.nm.size:=by simp
 generalize hL1:l++flatB [⟨#[110,111,100,101,32]⟩,x.nm,⟨#[40]⟩,d1,⟨#[41,32,114,101,116,117,114,110,115,32,40]⟩,d2,⟨#[41]⟩]++[10]=l1 at *
 have hl1:l1.length≤l.length+20000000:=by
  rw [← hL1];simp only [flatB,List.flatMap_cons,List.flatMap_nil,List.length_append,List.length_cons,List.length_nil];omega
 have HLA:=Hd fun W (h:LnAt B b l W)=>lnLit B b l [⟨#[110,111,100,101,32]⟩,x.nm,⟨#[40]⟩,d1,⟨#[41,32,114,101,116,117,114,110,115,32,40]⟩,d2,⟨#[41]⟩] 7 #[.string ⟨#[110,111,100,101,32]⟩,.string x.nm,.string ⟨#[40]⟩,.string d1,.string ⟨#[41,32,114,101,116,117,114,110,115,32,40]⟩,.string d2,.string ⟨#[41]⟩] W h rfl rfl (by
  simp only [flatB,List.flatMap_cons,List.flatMap_nil,List.length_append,List.length_cons,List.length_nil];omega) (by decide)
 rw [hL1] at HLA;generalize hL2:l1++flatB [⟨#[118,97,114,32]⟩,d3,⟨#[59]⟩]++[10]=l2 at *
 have hl2:l2.length≤l.length+40000000:=by
  rw [← hL2];simp only [flatB,List.flatMap_cons,List.flatMap_nil,List.length_append,List.length_cons,List.length_nil];omega
 have HLB:=Hd fun W (h:LnAt B b l1 W)=>lnLit B b l1 [⟨#[118,97,114,32]⟩,d3,⟨#[59]⟩] 3 #[.string ⟨#[118,97,114,32]⟩,.string d3,.string ⟨#[59]⟩] W h rfl rfl (by
  simp only [flatB,List.flatMap_cons,List.flatMap_nil,List.length_append,List.length_cons,List.length_nil];omega) (by decide)
 rw [hL2] at HLB
 have HLC:=Hd fun(lx:List UInt8) (hx:lx.length≤l.length+40000000) W (h:LnAt B b lx W)=>lnLit B b lx [⟨#[108,101,116]⟩] 1 #[.string ⟨#[108,101,116]⟩] W h rfl rfl (by
  simp only [flatB,List.flatMap_cons,List.flatMap_nil,List.length_append,List.length_cons,List.length_nil];omega) (by decide)
 have HLD:=Hd fun(k:Nat) (hk:k≤1000) W (h:LnAt B b (l++hd++eqsG (x.eqs.take k)) W)=>lnLit B b _ [⟨#[116,101,108]⟩] 1 #[.string ⟨#[116,101,108]⟩] W h rfl rfl (by
  have h1:=HQL.out k;simp only [flatB,List.flatMap_cons,List.flatMap_nil,List.length_append,List.length_cons,List.length_nil];omega) (by decide)
 have HLE:=Hd fun(k:Nat) (hk:k<x.eqs.length) (nt tx:ByteArray) (h1:nt.size≤2000000) (h2:tx.size≤100000) W (h:LnAt B b (l++hd++eqsG (x.eqs.take k)) W)=>lnLit B b _ [⟨#[32,32]⟩,nt,⟨#[32,61,32]⟩,tx,⟨#[59]⟩] 5 #[.string ⟨#[32,32]⟩,.string nt,.string ⟨#[32,61,32]⟩,.string tx,.string ⟨#[59]⟩] W h rfl rfl (by
  have h3:=HQL.out k;have h4:nt.data.toList.length=nt.size:=by simp
  have h5:tx.data.toList.length=tx.size:=by simp
  simp only [flatB,List.flatMap_cons,List.flatMap_nil,List.length_append,List.length_cons,List.length_nil];omega) (by decide)
 clear hL1 hL2 e1 e2 e3 e4 s1 s2 s3 hhd;have HL:=Hd h;have HB:=Hd h.le;have hb1:=(Below.refl w.heap.size w).alloc (Nat.le_refl _) (.cells (ndA x A1 c1 A2 c2 A3 c3 A4 c4) 33);have HX:=Hd (Keep.of_below hb1 h.le (b:=b));have HC:=Hd fun W (k:Keep B b (w.alloc (.cells (ndA x A1 c1 A2 c2 A3 c3 A4 c4) 33)) W) (j:Nat)=>k.cells (heap_alloc_new w _) (Nat.ne_of_gt h.lt) (by decide) j;have HW:=Hd fun W (k:Keep B b (w.alloc (.cells (ndA x A1 c1 A2 c2 A3 c3 A4 c4) 33)) W)=>behind0 (h0.trans (hb1.mono h0.size)) hB0 k;have HL:=Hd (h.below hb1);have HB1:=Hd (Nat.le_trans HB.out hb1.size);have HBL:=Hd h.lt;clear h hb1 HB h0;unfold ndA at HC HW HL HB1 HX ⊢;generalize x.nm=nm at *;generalize x.ins.length=n1 at *;generalize x.outs.length=n2 at *;generalize hvs:x.vars=vs at *;generalize hnv:vs.length=nv at *;have HV0:=Hd (show(0<nv→¬ vs=[])∧(¬ 0<nv→vs=[]) from⟨fun h e=>by rw [e] at hnv;simp at hnv;omega,fun h=>List.eq_nil_of_length_eq_zero (by omega)⟩);clear hvs hnv;generalize hqs:x.eqs=qs at *;generalize hnq:qs.length=n at *;have HNQ:=Hd hnq;clear hnq hqs
 go_enter Tryz.func22,Tryz.ntmps22
 go_upto_region 1 with(fail)
 generalize hw1:w.alloc _=w1 at *;have HK:=Hd (Keep.refl B b w1);obtain⟨p0,p1,p2,-,-,-⟩:=Sx (HC.out w1 HK.out);simp only [Ya,Yb,Yc] at p0 p1 p2;have HS:=Hd fun W k=>(show W.cell? ⟨w.heap.size,0,none⟩=some (.string nm)∧W.cell? ⟨w.heap.size,1,none⟩=some (.slice A1 n1 c1)∧W.cell? ⟨w.heap.size,2,none⟩=some (.slice A2 n2 c2) from⟨HC.out W k 0,HC.out W k 1,HC.out W k 2⟩);clear hw1
 go_region_held3 (fun W=>W.cell? ⟨w.heap.size,0,none⟩=some (.string nm)∧W.cell? ⟨w.heap.size,1,none⟩=some (.slice A1 n1 c1)∧W.cell? ⟨w.heap.size,2,none⟩=some (.slice A2 n2 c2)) (first | exact HS.out _ HK.out | exact HS.out _ HK.out.drew | exact HS.out _ (HK.out.drewN _) | exact HS.out _ (HK.out.alloc HB1.out _))
  ((first
    | (go_at_call 49;(with_reducible refine(HD1.out _ ?hbx).mono ?_);(case hbx=>(first | exact HW.out _ HK.out | exact HW.out _ HK.out.drew));rintro r Wa ⟨rfl,hba⟩;have HL:=Hd (show LnAt B b l Wa by first | exact HL.out.below hba | exact HL.out.drew.below hba);have HK:=Hd (show Keep B b w1 Wa by first | exact HK.out.behind hba HB1.out | exact HK.out.drew.behind hba HB1.out);have HB1:=Hd (Nat.le_trans HB1.out hba.size);clear hba)
    | (go_at_call 49;(with_reducible refine(HD2.out _ ?hbx).mono ?_);(case hbx=>(first | exact HW.out _ HK.out | exact HW.out _ HK.out.drew));rintro r Wb ⟨rfl,hba⟩;have HL:=Hd (show LnAt B b l Wb by first | exact HL.out.below hba | exact HL.out.drew.below hba);have HK:=Hd (show Keep B b w1 Wb by first | exact HK.out.behind hba HB1.out | exact HK.out.drew.behind hba HB1.out);have HB1:=Hd (Nat.le_trans HB1.out hba.size);clear hba)
    | (go_at_call 47;(with_reducible refine(HLA.out _ ?hbx).mono ?_);(case hbx=>exact HL.out);rintro r Wd ⟨rfl,hld,hkd⟩;have HL:=Hd hld;have HK:=Hd (HK.out.trans hkd);have HB1:=Hd (Nat.le_trans HB1.out hkd.1.size);clear hld hkd)))
 have p3:=HC.out Wd HK.out 3;simp only [Ya,Yb,Yc] at p3;clear p0 p1 p2 HS
 by_cases hv:0<nv
 · have dv:decide ((0:Int)<(nv:Int))=true:=decide_eq_true (by omega);have HH:=Hd (HH1.out (HV0.out.1 hv));clear HH0 HH1
   go_wp2_with fail
   refine(HD3.out _ (HW.out _ HK.out)).mono ?_;rintro e W3 ⟨rfl,hb3⟩;have HL:=Hd (HL.out.below hb3);have HK:=Hd (HK.out.behind hb3 HB1.out);have HB1:=Hd (Nat.le_trans HB1.out hb3.size);clear hb3 p3
   go_wp2_with fail
   refine(HLB.out _ HL.out).mono ?_;rintro e W4 ⟨rfl,hl4,hk4⟩;have HL:=Hd hl4;have HK:=Hd (HK.out.trans hk4);clear hl4 hk4
   go_wp2_with fail
   refine(HLC.out _ (by omega) _ HL.out).mono ?_;rintro e We ⟨rfl,hle,hke⟩;rw [HH.out] at hle;have HL:=Hd hle;have HKE:=Hd (HK.out.trans hke);clear hle hke HK;have q4:=HC.out We HKE.out 4;simp only [Ya,Yb,Yc] at q4
   go_wp2_with fail
   go_loopw [38] (fun i wr=>∃ k:Nat,k≤n∧i=.int .i64 k∧LnAt B b (l++hd++eqsG (qs.take k)) wr∧Keep B b w1 wr) (fun i _=>n-(intOf i).toNat)
   case atStart=>exact⟨0,Nat.zero_le _,rfl,by simpa [eqsG] using HL.out,HKE.out⟩
   case round=>
    obtain⟨k,hk,rfl,hln,hkp⟩:=hrel;have HKP:=Hd hkp;have HLN:=Hd hln
    by_cases hlt:k<n
    · have hbw:=HW.out wr hkp;have HBR:=Hd hln.le;have HBN:=Hd hln.lt;obtain⟨bq,off,B0,cB0,D,cD,F,cF,rfl,hbl,⟨r1,r2,r3,r4,r5,r6⟩,e0,e1,e2,e3,e4,e5,e6⟩:=qn_atC (HRC.out wr hbw) (i:=k) hlt;have hyq:=HQN.out k hlt;have HQK:=Hd (HQS.out k hlt)
      have hjl:=joinW_len (s:=44) (m:=1000) (l:=(qs[k]?.getD default).ns.map strL) (fun a ha=>by
       obtain⟨s,hs,rfl⟩:=List.mem_map.1 ha;exact hyq.2.1 s hs)
      rw [List.length_map] at hjl;have hjn:=hyq.1
      have hjs:(ofB (joinW 44 ((qs[k]?.getD default).ns.map strL))).size≤2000000:=by
       rw [ofB_sizeS];omega
      have htx:=txX_len (num_of r3 hyq.2.2.2);have hje:Lib.join ((qs[k]?.getD default).ns.map (·.data.toList)) [44,32]=joinW 44 ((qs[k]?.getD default).ns.map strL):=by rw [join_W];rfl
      have HJ:=Hd fun W (r:RdT W B0 (qs[k]?.getD default).ns.length (qs[k]?.getD default).ns)=>libJoin B0 (qs[k]?.getD default).ns.length cB0 (qs[k]?.getD default).ns ⟨#[44,32]⟩ W r r6 (by omega) (by
       show(Lib.join _ [44,32]).length≤_
       rw [hje];omega)
      rw [show(⟨(Lib.join ((qs[k]?.getD default).ns.map (·.data.toList)) (⟨#[44,32]⟩:ByteArray).data.toList).toArray⟩:ByteArray)=ofB (joinW 44 ((qs[k]?.getD default).ns.map strL)) by
       show(⟨(Lib.join _ [44,32]).toArray⟩:ByteArray)=_
       rw [hje];rfl] at HJ
      have HXC:=Hd fun W a r=>HEX.out k hlt D cD F cF W a r r3;have HLX:=Hd (HLE.out k hlt (ofB (joinW 44 ((qs[k]?.getD default).ns.map strL))) (textS (qs[k]?.getD default).x) hjs (by omega))
      have HEQ:=Hd (show l++hd++eqsG (qs.take k)++flatB [⟨#[32,32]⟩,ofB (joinW 44 ((qs[k]?.getD default).ns.map strL)),⟨#[32,61,32]⟩,textS (qs[k]?.getD default).x,⟨#[59]⟩]++[10]=l++hd++eqsG (qs.take (k+1)) by
       rw [HQK.out]
       simp [flatB,ofB,eqG,txX])
      rw [HEQ.out] at HLX;have HF:=Hd fun w3 h=>qn_facts wr (qs[k]?.getD default) B0 cB0 D cD F cF w3 h r1 r2;have HNB:=Hd (heap_alloc_new wr (.cells (qnA (qs[k]?.getD default) B0 cB0 D cD F cF) 49));clear hln hkp hyq r1 r2 r3 r4 r5 r6 hjl hjn hje hbw HEQ HQK hjs htx;unfold exA at HXC;unfold qnA at HF HNB;generalize (qs[k]?.getD default).ns.length=ny at *;generalize ofB (joinW 44 ((qs[k]?.getD default).ns.map strL))=nt at *;generalize textS (qs[k]?.getD default).x=tx at *;generalize qs[k]?.getD default=y at *
      go_upto_region 8 with(fail)
      generalize hw3:wr.alloc _=w3;rw [hw3] at HNB;obtain⟨hb3,hg3,hr3,hx3,hcell3⟩:=HF.out w3 hw3;have HC3:=Hd fun W (k:Keep B b w3 W) (j:Nat)=>k.cells HNB.out (Nat.ne_of_gt HBN.out) (by decide) j;have HS3:=Hd fun W k=>(show W.cell? ⟨wr.heap.size,0,none⟩=some (.slice B0 ny cB0)∧W.cell? ⟨wr.heap.size,1,none⟩=some (.int .i64 y.x.k)∧W.cell? ⟨wr.heap.size,2,none⟩=some (.int .i64 y.x.n)∧W.cell? ⟨wr.heap.size,3,none⟩=some (.string y.x.s)∧W.cell? ⟨wr.heap.size,4,none⟩=some (.int .i64 y.x.op)∧W.cell? ⟨wr.heap.size,5,none⟩=some (.slice D y.x.arms.length cD)∧W.cell? ⟨wr.heap.size,6,none⟩=some (.slice F y.x.subs.length cF) from⟨HC3.out W k 0,HC3.out W k 1,HC3.out W k 2,HC3.out W k 3,HC3.out W k 4,HC3.out W k 5,HC3.out W k 6⟩);have HK3:=Hd (Keep.refl B b w3);have HKW:=Hd (HKP.out.behind hb3 HBR.out);have HR3:=Hd hr3;have HX3:=Hd hx3;have HL3:=Hd (HLN.out.below hb3);have HB3:=Hd (Nat.le_trans HBR.out hb3.size);have HA3:=Hd (Below.refl w3.heap.size w3);clear hb3 hg3 hr3 hx3 hcell3 HF hw3 e0 e1 e2 e3 e4 e5 e6;obtain⟨e0,e1,e2,e3,e4,e5,e6⟩:=HS3.out w3 HK3.out
      go_region_held3 (fun W=>W.cell? ⟨wr.heap.size,0,none⟩=some (.slice B0 ny cB0)∧W.cell? ⟨wr.heap.size,1,none⟩=some (.int .i64 y.x.k)∧W.cell? ⟨wr.heap.size,2,none⟩=some (.int .i64 y.x.n)∧W.cell? ⟨wr.heap.size,3,none⟩=some (.string y.x.s)∧W.cell? ⟨wr.heap.size,4,none⟩=some (.int .i64 y.x.op)∧W.cell? ⟨wr.heap.size,5,none⟩=some (.slice D y.x.arms.length cD)∧W.cell? ⟨wr.heap.size,6,none⟩=some (.slice F y.x.subs.length cF)) (first | exact HS3.out _ HK3.out | exact HS3.out _ HK3.out.drew | exact HS3.out _ (HK3.out.drewN _) | exact HS3.out _ (HK3.out.alloc HB3.out _))
       ((first
         | (go_at_call 48;(with_reducible refine(HJ.out _ ?hbx).mono ?_);(case hbx=>(first | exact HR3.out.below HA3.out | exact(HR3.out.below HA3.out).drewN 1));rintro r Wa ⟨rfl,hba⟩;have HL3:=Hd (show LnAt B b _ Wa by first | exact HL3.out.below hba | exact HL3.out.drew.below hba);have HK3:=Hd (show Keep B b w3 Wa by first | exact HK3.out.behind hba HB3.out | exact HK3.out.drew.behind hba HB3.out);have HA3:=Hd (show Below w3.heap.size w3 Wa by first | exact HA3.out.trans (hba.mono HA3.out.size) | exact(Below.drew HA3.out).trans (hba.mono HA3.out.size));have HB3:=Hd (Nat.le_trans HB3.out hba.size);clear hba)
         | (go_at_call 50;(with_reducible refine(HXC.out _ ?hbx ?hby).mono ?_);(case hbx=>(first | exact HW.out _ (HKW.out.trans HK3.out) | exact HW.out _ (HKW.out.trans HK3.out).drew));(case hby=>(first | exact HX3.out.below HA3.out | exact HX3.out.below (Below.drew HA3.out)));rintro r Wb ⟨rfl,hba⟩;have HL3:=Hd (show LnAt B b _ Wb by first | exact HL3.out.below hba | exact HL3.out.drew.below hba);have HK3:=Hd (show Keep B b w3 Wb by first | exact HK3.out.behind hba HB3.out | exact HK3.out.drew.behind hba HB3.out);have HA3:=Hd (show Below w3.heap.size w3 Wb by first | exact HA3.out.trans (hba.mono HA3.out.size) | exact(Below.drew HA3.out).trans (hba.mono HA3.out.size));have HB3:=Hd (Nat.le_trans HB3.out hba.size);clear hba)
         | (go_at_call 47;(with_reducible refine(HLX.out _ ?hbx).mono ?_);(case hbx=>exact HL3.out);rintro r Wd ⟨rfl,hld,hkd⟩;have HL3:=Hd hld;have HK3:=Hd (HK3.out.trans hkd);clear hld hkd)))
      go_wp2_with fail
      go_roundw
      case rel=>exact⟨k+1,by omega,by go_num,HL3.out,HKW.out.trans HK3.out⟩
      case measure=>simp [intOf];omega
    · have hkn:k=n:=by omega
      subst hkn
      have HT:=Hd (show l++hd++eqsG (qs.take k)++flatB [⟨#[116,101,108]⟩]++[10]=l++ng by
       rw [HHD.out,List.take_of_length_le (by rw [HNQ.out];omega)]
       simp [flatB,telW])
      have HLY:=HLD.out k (by omega) wr hln;rw [HT.out] at HLY;have HLZ:=Hd HLY;clear hln hkp HLY HT
      go_wp2_with fail
      refine HLZ.out.mono ?_;rintro r Wd ⟨rfl,hld,hkd⟩;have HLF:=Hd hld;have HKF:=Hd (HX.out.trans (HKP.out.trans hkd));clear hld hkd
      go_wp2_with fail
      go_end0
      exact⟨rfl,HLF.out,HKF.out⟩
 · have dv:decide ((0:Int)<(nv:Int))=false:=decide_eq_false (by omega);have HH:=Hd (HH0.out (HV0.out.2 hv));clear HH0 HH1
   go_wp2_with fail
   clear p3;refine(HLC.out _ (by omega) _ HL.out).mono ?_;rintro e We ⟨rfl,hle,hke⟩;rw [HH.out] at hle;have HL:=Hd hle;have HKE:=Hd (HK.out.trans hke);clear hle hke HK;have q4:=HC.out We HKE.out 4;simp only [Ya,Yb,Yc] at q4
   go_wp2_with fail
   go_loopw [38] (fun i wr=>∃ k:Nat,k≤n∧i=.int .i64 k∧LnAt B b (l++hd++eqsG (qs.take k)) wr∧Keep B b w1 wr) (fun i _=>n-(intOf i).toNat)
   case atStart=>exact⟨0,Nat.zero_le _,rfl,by simpa [eqsG] using HL.out,HKE.out⟩
   case round=>
    obtain⟨k,hk,rfl,hln,hkp⟩:=hrel;have HKP:=Hd hkp;have HLN:=Hd hln
    by_cases hlt:k<n
    · have hbw:=HW.out wr hkp;have HBR:=Hd hln.le;have HBN:=Hd hln.lt;obtain⟨bq,off,B0,cB0,D,cD,F,cF,rfl,hbl,⟨r1,r2,r3,r4,r5,r6⟩,e0,e1,e2,e3,e4,e5,e6⟩:=qn_atC (HRC.out wr hbw) (i:=k) hlt;have hyq:=HQN.out k hlt;have HQK:=Hd (HQS.out k hlt)
      have hjl:=joinW_len (s:=44) (m:=1000) (l:=(qs[k]?.getD default).ns.map strL) (fun a ha=>by
       obtain⟨s,hs,rfl⟩:=List.mem_map.1 ha;exact hyq.2.1 s hs)
      rw [List.length_map] at hjl;have hjn:=hyq.1
      have hjs:(ofB (joinW 44 ((qs[k]?.getD default).ns.map strL))).size≤2000000:=by
       rw [ofB_sizeS];omega
      have htx:=txX_len (num_of r3 hyq.2.2.2);have hje:Lib.join ((qs[k]?.getD default).ns.map (·.data.toList)) [44,32]=joinW 44 ((qs[k]?.getD default).ns.map strL):=by rw [join_W];rfl
      have HJ:=Hd fun W (r:RdT W B0 (qs[k]?.getD default).ns.length (qs[k]?.getD default).ns)=>libJoin B0 (qs[k]?.getD default).ns.length cB0 (qs[k]?.getD default).ns ⟨#[44,32]⟩ W r r6 (by omega) (by
       show(Lib.join _ [44,32]).length≤_
       rw [hje];omega)
      rw [show(⟨(Lib.join ((qs[k]?.getD default).ns.map (·.data.toList)) (⟨#[44,32]⟩:ByteArray).data.toList).toArray⟩:ByteArray)=ofB (joinW 44 ((qs[k]?.getD default).ns.map strL)) by
       show(⟨(Lib.join _ [44,32]).toArray⟩:ByteArray)=_
       rw [hje];rfl] at HJ
      have HXC:=Hd fun W a r=>HEX.out k hlt D cD F cF W a r r3;have HLX:=Hd (HLE.out k hlt (ofB (joinW 44 ((qs[k]?.getD default).ns.map strL))) (textS (qs[k]?.getD default).x) hjs (by omega))
      have HEQ:=Hd (show l++hd++eqsG (qs.take k)++flatB [⟨#[32,32]⟩,ofB (joinW 44 ((qs[k]?.getD default).ns.map strL)),⟨#[32,61,32]⟩,textS (qs[k]?.getD default).x,⟨#[59]⟩]++[10]=l++hd++eqsG (qs.take (k+1)) by
       rw [HQK.out]
       simp [flatB,ofB,eqG,txX])
      rw [HEQ.out] at HLX;have HF:=Hd fun w3 h=>qn_facts wr (qs[k]?.getD default) B0 cB0 D cD F cF w3 h r1 r2;have HNB:=Hd (heap_alloc_new wr (.cells (qnA (qs[k]?.getD default) B0 cB0 D cD F cF) 49));clear hln hkp hyq r1 r2 r3 r4 r5 r6 hjl hjn hje hbw HEQ HQK hjs htx;unfold exA at HXC;unfold qnA at HF HNB;generalize (qs[k]?.getD default).ns.length=ny at *;generalize ofB (joinW 44 ((qs[k]?.getD default).ns.map strL))=nt at *;generalize textS (qs[k]?.getD default).x=tx at *;generalize qs[k]?.getD default=y at *
      go_upto_region 8 with(fail)
      generalize hw3:wr.alloc _=w3;rw [hw3] at HNB;obtain⟨hb3,hg3,hr3,hx3,hcell3⟩:=HF.out w3 hw3;have HC3:=Hd fun W (k:Keep B b w3 W) (j:Nat)=>k.cells HNB.out (Nat.ne_of_gt HBN.out) (by decide) j;have HS3:=Hd fun W k=>(show W.cell? ⟨wr.heap.size,0,none⟩=some (.slice B0 ny cB0)∧W.cell? ⟨wr.heap.size,1,none⟩=some (.int .i64 y.x.k)∧W.cell? ⟨wr.heap.size,2,none⟩=some (.int .i64 y.x.n)∧W.cell? ⟨wr.heap.size,3,none⟩=some (.string y.x.s)∧W.cell? ⟨wr.heap.size,4,none⟩=some (.int .i64 y.x.op)∧W.cell? ⟨wr.heap.size,5,none⟩=some (.slice D y.x.arms.length cD)∧W.cell? ⟨wr.heap.size,6,none⟩=some (.slice F y.x.subs.length cF) from⟨HC3.out W k 0,HC3.out W k 1,HC3.out W k 2,HC3.out W k 3,HC3.out W k 4,HC3.out W k 5,HC3.out W k 6⟩);have HK3:=Hd (Keep.refl B b w3);have HKW:=Hd (HKP.out.behind hb3 HBR.out);have HR3:=Hd hr3;have HX3:=Hd hx3;have HL3:=Hd (HLN.out.below hb3);have HB3:=Hd (Nat.le_trans HBR.out hb3.size);have HA3:=Hd (Below.refl w3.heap.size w3);clear hb3 hg3 hr3 hx3 hcell3 HF hw3 e0 e1 e2 e3 e4 e5 e6;obtain⟨e0,e1,e2,e3,e4,e5,e6⟩:=HS3.out w3 HK3.out
      go_region_held3 (fun W=>W.cell? ⟨wr.heap.size,0,none⟩=some (.slice B0 ny cB0)∧W.cell? ⟨wr.heap.size,1,none⟩=some (.int .i64 y.x.k)∧W.cell? ⟨wr.heap.size,2,none⟩=some (.int .i64 y.x.n)∧W.cell? ⟨wr.heap.size,3,none⟩=some (.string y.x.s)∧W.cell? ⟨wr.heap.size,4,none⟩=some (.int .i64 y.x.op)∧W.cell? ⟨wr.heap.size,5,none⟩=some (.slice D y.x.arms.length cD)∧W.cell? ⟨wr.heap.size,6,none⟩=some (.slice F y.x.subs.length cF)) (first | exact HS3.out _ HK3.out | exact HS3.out _ HK3.out.drew | exact HS3.out _ (HK3.out.drewN _) | exact HS3.out _ (HK3.out.alloc HB3.out _))
       ((first
         | (go_at_call 48;(with_reducible refine(HJ.out _ ?hbx).mono ?_);(case hbx=>(first | exact HR3.out.below HA3.out | exact(HR3.out.below HA3.out).drewN 1));rintro r Wa ⟨rfl,hba⟩;have HL3:=Hd (show LnAt B b _ Wa by first | exact HL3.out.below hba | exact HL3.out.drew.below hba);have HK3:=Hd (show Keep B b w3 Wa by first | exact HK3.out.behind hba HB3.out | exact HK3.out.drew.behind hba HB3.out);have HA3:=Hd (show Below w3.heap.size w3 Wa by first | exact HA3.out.trans (hba.mono HA3.out.size) | exact(Below.drew HA3.out).trans (hba.mono HA3.out.size));have HB3:=Hd (Nat.le_trans HB3.out hba.size);clear hba)
         | (go_at_call 50;(with_reducible refine(HXC.out _ ?hbx ?hby).mono ?_);(case hbx=>(first | exact HW.out _ (HKW.out.trans HK3.out) | exact HW.out _ (HKW.out.trans HK3.out).drew));(case hby=>(first | exact HX3.out.below HA3.out | exact HX3.out.below (Below.drew HA3.out)));rintro r Wb ⟨rfl,hba⟩;have HL3:=Hd (show LnAt B b _ Wb by first | exact HL3.out.below hba | exact HL3.out.drew.below hba);have HK3:=Hd (show Keep B b w3 Wb by first | exact HK3.out.behind hba HB3.out | exact HK3.out.drew.behind hba HB3.out);have HA3:=Hd (show Below w3.heap.size w3 Wb by first | exact HA3.out.trans (hba.mono HA3.out.size) | exact(Below.drew HA3.out).trans (hba.mono HA3.out.size));have HB3:=Hd (Nat.le_trans HB3.out hba.size);clear hba)
         | (go_at_call 47;(with_reducible refine(HLX.out _ ?hbx).mono ?_);(case hbx=>exact HL3.out);rintro r Wd ⟨rfl,hld,hkd⟩;have HL3:=Hd hld;have HK3:=Hd (HK3.out.trans hkd);clear hld hkd)))
      go_wp2_with fail
      go_roundw
      case rel=>exact⟨k+1,by omega,by go_num,HL3.out,HKW.out.trans HK3.out⟩
      case measure=>simp [intOf];omega
    · have hkn:k=n:=by omega
      subst hkn
      have HT:=Hd (show l++hd++eqsG (qs.take k)++flatB [⟨#[116,101,108]⟩]++[10]=l++ng by
       rw [HHD.out,List.take_of_length_le (by rw [HNQ.out];omega)]
       simp [flatB,telW])
      have HLY:=HLD.out k (by omega) wr hln;rw [HT.out] at HLY;have HLZ:=Hd HLY;clear hln hkp HLY HT
      go_wp2_with fail
      refine HLZ.out.mono ?_;rintro r Wd ⟨rfl,hld,hkd⟩;have HLF:=Hd hld;have HKF:=Hd (HX.out.trans (HKP.out.trans hkd));clear hld hkd
      go_wp2_with fail
      go_end0
      exact⟨rfl,HLF.out,HKF.out⟩
end
end Go.Proofs.YtpedcgpcchbhpaaGreatDoor
