/- Parts: PcJ. Conditions: each theorem's own. -/
import Derived.BigRegion
import Derived.Test.YtokiaaapgkdpmaaGreatDoorU42
import Derived.Test.YtokiaaapgkdpmaaGreatDoorU43
namespace Go.Proofs.YtokiaaapgkdpmaaGreatDoor
set_option linter.unusedVariables false
set_option linter.unusedSimpArgs false
set_option maxRecDepth 100000
set_option maxHeartbeats 40000000
section
open Go.RowKit Go.Sort
section
variable {w w':World}
def CopyR(w2:World)(T:TypeId)(n:Nat)(all:List Tk)(k:Nat)(v:Value)(wr:World):Prop:=
 k≤n∧∃ A4 cap,v=.slice A4 k cap∧wr.ownsRow w2.heap.size T 4 (.slice A4 k cap) k (flatT (all.take k))∧Below w2.heap.size w2 wr
theorem CopyR.start(w2:World)(T:TypeId)(n:Nat)(all:List Tk):CopyR w2 T n all 0 (.slice (some ⟨w2.heap.size,0,none⟩) 0 0) (w2.alloc (.cells #[] T)):=
 ⟨Nat.zero_le _,_,_,rfl,World.ownsRow_lit w2 #[] 0 (Nat.le_refl _) (by decide) rfl,(Below.refl _ _).alloc (Nat.le_refl _) _⟩
theorem CopyR.next{w2 wr v w9:World}{T:TypeId}{n k:Nat}{all:List Tk}{A4 A9:Option Addr}{cap c9:Nat}(hl:all.length=n)(hk:k<n)(hb:Below w2.heap.size w2 v)(ho:wr.ownsRow w2.heap.size T 4 (.slice A4 k cap) k (flatT (all.take k)))
 (hown:w9.ownsRow w2.heap.size T 4 (.slice A9 (k+1) c9) (k+1) (flatT (all.take k)++(tkA (all[k]?.getD default)).toList)) (hgr:v.grownBy w9 (Value.slice A4 k cap).ownBlock):CopyR w2 T n all (k+1) (.slice A9 (k+1) c9) w9:=by
 refine⟨by omega,_,_,rfl,?_,hb.grown hgr hb.size (fun j hj=>(ho.lt j hj).1)⟩;rw[List.take_add_one,List.getElem?_eq_getElem (by omega),Option.toList_some,flatT_app,flatT_one];rw[List.getElem?_eq_getElem (by omega),Option.getD_some] at hown;exact hown
theorem CopyR.done{w2 wr:World}{T:TypeId}{n:Nat}{all:List Tk}{v:Value}(hl:all.length=n)(hn:n≤9223372036854775807)(h:CopyR w2 T n all n v wr):∃ A4 cap,v=.slice A4 n cap∧RdK wr A4 n all∧Below w2.heap.size w2 wr:=by
 obtain⟨_,A4,cap,rfl,ho,hb⟩:=h;rw[List.take_of_length_le (by omega)] at ho;obtain⟨A5,c5,e,hr⟩:=RdK.of_own ho hn;injection e with e1 _ e2;subst e1 e2;exact⟨_,_,rfl,hr,hb⟩
theorem CopyR.room{w2 wr:World}{T:TypeId}{n:Nat}{all:List Tk}{v:Value}(hn:0<n)(h:CopyR w2 T n all n v wr):∃ g cap,v=.slice (some ⟨g,0,none⟩) n cap∧n≤cap:=by
 obtain⟨_,A4,c4,rfl,ho,hb⟩:=h;rcases ho.2 with⟨_,h0⟩|⟨g,cap,cur,e,hg,hh,hnc,hr⟩
 · omega
 · exact⟨g,cap,e,hnc⟩
theorem begins_pos{l:List Tk}{at_:Int}(h:beginsB l at_=true):0<l.length∧(l[l.length-1]?.getD default).k=6:=by
 simp only[beginsB,Bool.and_eq_true,decide_eq_true_eq,beq_iff_eq] at h;omega
theorem last_six{N:Nat}{all:List Tk}{at_:Int}{n:Nat}(hl:all.length=n)(h:((partO N (all.take (n-1)) at_).2.2 != 1)=true):1<n∧(all[n-2]?.getD default).k=6:=by
 cases hb:beginsB (all.take (n-1)) at_ with
 | false=>
  rw[partO_none hb] at h
  cases h
 | true=>
  obtain⟨h1,h2⟩:=begins_pos hb;have hlen:(all.take (n-1)).length=n-1:=by rw[List.length_take];omega
  rw[hlen] at h1 h2;refine⟨by omega,?_⟩;rw[List.getElem?_take_of_lt (by omega),show n-1-1=n-2 by omega] at h2;exact h2
theorem RdK.take_{w:World}{A:Option Addr}{n m:Nat}{ts:List Tk}(h:RdK w A n ts)(hm:m≤n):RdK w A m (ts.take m):=by
 refine⟨by rw[List.length_take,h.1];omega,by have:=h.2.1;omega,fun h0=>?_⟩;obtain⟨b,off,e,hb,hc⟩:=h.2.2 (by omega);refine⟨b,off,e,hb,fun i hi=>?_⟩;rw[List.getElem?_take_of_lt hi];exact hc i (by omega)
section
variable {w:World}{A:Option Addr}{n c:Nat}{all:List Tk}
def PartT(all:List Tk)(at_:Int)(e:Ending)(w':World):Prop:=
 ∃ A1 ca B1 cb,e=.returned (.tuple #[.agg (exA (partO 10000 all at_).1 A1 ca B1 cb),.int .i64 (partO 10000 all at_).2.1,.int .i64 (partO 10000 all at_).2.2])∧rdX w' (partO 10000 all at_).1 A1 B1
theorem PartV.plain{B b0:Nat}{at_:Int}{e:Ending}{w':World}(h:PartV B b0 10000 all at_ e w'):PartT all at_ e w':=by
 obtain⟨A1,ca,B1,cb,he,hx⟩:=h;exact⟨A1,ca,B1,cb,he,rdX_of_blM hx⟩
theorem paPartM{M:Nat}(at_:Int)(h:RdK w A n all)(ht:∀ t∈all,TkOK t∧t.s.length≤M)(hn:all.length≤10000)(ha:-9223372036854775808≤at_∧at_≤9223372036854775807)(hM:5≤M)(hM2:M≤1000):
 Calls Tryz.prog 12 #[.slice A n c,.int .i64 at_] w fun e w'=>Below w.heap.size w w'∧PartT all at_ e w':=by
 cases hb:beginsB all at_ with
 | false=>exact(part_none 10000 at_ h (fun t x=>(ht t x).1) hn hn ha hb).mono fun e w' hx=>⟨hx.1,hx.2.plain⟩
 | true=>
  obtain⟨h0,h2,h3,h4⟩:=begins_end hb;refine(paPart 10000 at_ h (fun t x=>(ht t x).1) hn hn ha fun x r1 hp hz=>?_).mono fun e w' hx=>⟨hx.1,hx.2.plain⟩;exact read_short hM hM2 ⟨fun t hx=>(ht t (List.mem_of_mem_drop hx)).2,h3⟩ (by rw[h4];omega) hp hz
theorem rePartM{M:Nat}(at_:Int)(h:RdK w A n all)(ht:∀ t∈all,TkOK t∧t.s.length≤M)(hn:all.length≤10000)(ha:-9223372036854775808≤at_∧at_≤9223372036854775807)(hM:5≤M)(hM2:M≤1000):
 Calls Tryz.prog 14 #[.slice A n c,.int .i64 at_] w fun e w'=>Below w.heap.size w w'∧PartT all at_ e w' :=
 (refPartD (M:=M) 10000 at_ h hn hn (by decide) ha hM hM2 fun t hx=>(ht t hx).2).mono fun e w' hx=>⟨hx.1,hx.2.plain⟩
end
end
theorem parts_try(s:ByteArray)(at_:Int)(w:World)(hs:s.size≤400)(ha:-9223372036854775808≤at_∧at_≤9223372036854775807)(hv:Vars w)(hl:(lexL 0 s.data.toList).2=none):
 Calls Tryz.prog 4 #[.string s,.int .i64 at_] w fun e w'=>e=.returned (.bool true)∧Below w.heap.size w w':=by
 have HV:=Hd hv;obtain⟨i0,hi,hz0,hz1,hz2⟩:=info_parts infoTk;have HA:=Hd fun w1:World=>rxAll s 400 w1 (by omega) (by omega);have HL:=Hd hl;have d1:decide ((400:Int)<(s.size:Int))=false:=decide_eq_false (by omega);have d2:decide (400<s.size)=false:=decide_eq_false (by omega);have HTG:=Hd (toks_good s);have HSZ:=Hd hs;clear hv hl hs
 go_enter Tryz.func4,Tryz.ntmps4
 go_wp2_with fail
 refine(HA.out w).mono ?_;rintro e w2 ⟨hans,hb⟩;have HB2:=Hd hb;clear hb;rcases hans with⟨p2,h2,rfl⟩|⟨h2,A,c,rfl,hR⟩
 · rw[HL.out] at h2
   cases h2
 · rw[show(lexL 0 s.data.toList).1.length+1=(toksL s).length by simp[toksL]] at hR ⊢;have HRK:=Hd (show RdK w2 A (toksL s).length (toksL s) from hR);have hmx:=HRK.out.2.1;have hlen:(toksL s).length≤401:=by have:=HTG.out.2.1;have:=HSZ.out;omega
   clear hR;generalize toksL s=all at *;generalize hn:all.length=n at *;clear h2
   go_wp2_with fail
   go_loopw [8,9] (fun v i wr=>∃ k:Nat,i=.int .i64 k∧CopyR w2 41 n all k v wr) (fun _ i _=>n-(intOf i).toNat)
   case atStart=>exact⟨0,rfl,CopyR.start _ _ _ _⟩
   case round=>
    obtain⟨k,rfl,hrel⟩:=hrel;have hkn:=hrel.1
    by_cases hk:k<n
    · obtain⟨_,A4,cap,rfl,hO,hB⟩:=hrel;have HO:=Hd hO;have HB:=Hd hB;obtain⟨b0,off,rfl,hb0,hcs⟩:=HRK.out.2.2 (by omega);obtain⟨c0,c1,c2,c3⟩:=hcs k hk;have HTT:=Hd (show(tkA (all[k]?.getD default)).toList=[.int .i64 (all[k]?.getD default).k,.string (ofL (all[k]?.getD default).s),.int .i64 (all[k]?.getD default).n,.int .i64 ((all[k]?.getD default).a:Int)] from rfl);have c0:=(hB.cell (p:=⟨b0,_,none⟩) hb0).trans c0;have c1:=(hB.cell (p:=⟨b0,_,none⟩) hb0).trans c1;have c2:=(hB.cell (p:=⟨b0,_,none⟩) hb0).trans c2;have c3:=(hB.cell (p:=⟨b0,_,none⟩) hb0).trans c3;have hbs:=hB.size;have hb1:b0<wr.heap.size:=by omega
      clear hO hB hcs;generalize (all[k]?.getD default).k=tk at *;generalize (all[k]?.getD default).s=ts at *;generalize (all[k]?.getD default).n=tn at *;generalize (all[k]?.getD default).a=ta at *
      go_upto_region 8 with(fail)
      go_region_held3 (fun W=>W.cell? ⟨b0,off+k*4,none⟩=some (.int .i64 tk)∧W.cell? ⟨b0,off+k*4+1,none⟩=some (.string (ofL ts))∧W.cell? ⟨b0,off+k*4+2,none⟩=some (.int .i64 tn)∧W.cell? ⟨b0,off+k*4+3,none⟩=some (.int .i64 (ta:Int))) (first | exact⟨c0,c1,c2,c3⟩ | exact⟨(World.cell?_alloc_lt _ _ _ hb1).trans c0,(World.cell?_alloc_lt _ _ _ hb1).trans c1,(World.cell?_alloc_lt _ _ _ hb1).trans c2,(World.cell?_alloc_lt _ _ _ hb1).trans c3⟩ | exact⟨z0,z1,z2,z3⟩)
       ((first | (refine step_append_lies _ (by rfl) _ _ _ (by rfl) w2.heap.size 41 i0 (tkV tk0) 4 40 Tryz.underlying38 hi hz0 hz1 hz2 rfl (by decide) (.slice A4 k cap) k (flatT (all.take k)) (by rfl) (own_alloc (w:=wr.drew) HO.out _) ⟨wr.heap.size,0,none⟩ 1 1 [.int .i64 tk,.string (ofL ts),.int .i64 tn,.int .i64 (ta:Int)] (by rfl) rfl (fun j u hu=>World.news_of_block (heap_alloc_new _ _) j u hu) (by simp[Value.oneCell']) (by omega) (by unfold maxLen;omega) (by omega) (by simp;omega) _ rfl ?_;intro g9 c9 w9 hown9 hgr9 hat9 hlt9;have HOW9:=Hd hown9;have HG9:=Hd hgr9;have z0:=(hgr9.cell_far ⟨b0,off+k*4,none⟩ (by show b0<(wr.alloc _).heap.size;rw[World.size_alloc];exact Nat.lt_succ_of_lt hb1) (fun e=>by have:=(HO.out.lt b0 e.symm).1;omega)).trans ((World.cell?_alloc_lt _ _ _ hb1).trans c0);have z1:=(hgr9.cell_far ⟨b0,off+k*4+1,none⟩ (by show b0<(wr.alloc _).heap.size;rw[World.size_alloc];exact Nat.lt_succ_of_lt hb1) (fun e=>by have:=(HO.out.lt b0 e.symm).1;omega)).trans ((World.cell?_alloc_lt _ _ _ hb1).trans c1);have z2:=(hgr9.cell_far ⟨b0,off+k*4+2,none⟩ (by show b0<(wr.alloc _).heap.size;rw[World.size_alloc];exact Nat.lt_succ_of_lt hb1) (fun e=>by have:=(HO.out.lt b0 e.symm).1;omega)).trans ((World.cell?_alloc_lt _ _ _ hb1).trans c2);have z3:=(hgr9.cell_far ⟨b0,off+k*4+3,none⟩ (by show b0<(wr.alloc _).heap.size;rw[World.size_alloc];exact Nat.lt_succ_of_lt hb1) (fun e=>by have:=(HO.out.lt b0 e.symm).1;omega)).trans ((World.cell?_alloc_lt _ _ _ hb1).trans c3);clear hown9 hgr9 hat9)))
      go_wp2_with fail
      go_roundw
      case rel=>
       refine⟨k+1,by go_num,?_⟩;have hN:=CopyR.next (w2:=w2) (wr:=wr) HRK.out.1 hk (by first | exact(HB.out.alloc HB.out.size _).drew | exact HB.out.drew.alloc HB.out.size _) HO.out (by rw[HTT.out];exact HOW9.out) HG9.out
       exact hN
      case measure=>simp[intOf];omega
    · obtain rfl:n=k:=by omega
      have HRM:=Hd fun hn=>hrel.room hn;obtain⟨A4,cap,rfl,hR4,hB4⟩:=hrel.done HRK.out.1 HRK.out.2.1;have HR4:=Hd hR4;have HB4:=Hd (HB2.out.trans (hB4.mono HB2.out.size));have HW4:=Hd hB4;clear hrel hR4 hB4 hkn hk;have HLr:=Hd HR4.out;have HMr:=Hd (HRK.out.below HW4.out);have HBr:=Hd HB4.out;have hn0:0<n:=by obtain⟨q,z,e,_⟩:=HTG.out.2.2;rw[← HRK.out.1,e];simp
      obtain⟨g4,cap4,e4,hcap⟩:=HRM.out hn0;injection e4 with e4 _ e5;subst e4 e5;have HP1:=Hd fun(w1:World) A c (h:RdK w1 A n all)=>paPartM (c:=c) at_ h (fun t ht=>by have:=HTG.out.1 t ht;exact⟨this.1,by have:=this.2;have:=HSZ.out;omega⟩:∀ t∈all,TkOK t∧t.s.length≤906) (by rw[h.1];omega) ha (by decide) (by decide);have HP2:=Hd fun(w1:World) A c (h:RdK w1 A n all)=>rePartM (c:=c) at_ h (fun t ht=>by have:=HTG.out.1 t ht;exact⟨this.1,by have:=this.2;have:=HSZ.out;omega⟩:∀ t∈all,TkOK t∧t.s.length≤906) (by rw[h.1];omega) ha (by decide) (by decide);have HP3:=Hd fun(w1:World) A c (h:RdK w1 A (n-1) (all.take (n-1)))=>paPartM (c:=c) at_ h (fun t ht=>by have:=HTG.out.1 t (List.mem_of_mem_take ht);exact⟨this.1,by have:=this.2;have:=HSZ.out;omega⟩:∀ t∈all.take (n-1),TkOK t∧t.s.length≤906) (by rw[h.1];omega) ha (by decide) (by decide);have HW1:=Hd fun(w1:World) A c (h:RdK w1 A n all)=>paWhen (c:=c) at_ h (fun t ht=>(HTG.out.1 t ht).1) ha;have HW2:=Hd fun(w1:World) A c (h:RdK w1 A n all)=>refWhenD (c:=c) at_ h ha;have HSX:=Hd (last_six (N:=10000) (at_:=at_) HRK.out.1);unfold PartT at HP1 HP2 HP3;unfold WhenR at HW1 HW2;generalize partO 10000 all at_=z1 at *;generalize partO 10000 (all.take (n-1)) at_=z3 at *;generalize whenO all at_=z2 at *;obtain⟨x,j,f⟩:=z1;obtain⟨y,j3,f3⟩:=z3;obtain⟨s1,s2,j2,f2⟩:=z2;simp only at HP1 HP2 HP3 HW1 HW2 HSX
      go_wp2_with fail
      refine(HP1.out wr _ cap HLr.out).mono ?_;rintro e wa ⟨hb,A1,ca1,B1,cb1,rfl,hx⟩;have HXxa:=Hd hx;clear hx;have HBa:=Hd (HBr.out.trans (hb.mono HBr.out.size));have HLa:=Hd (HLr.out.below hb);have HMa:=Hd (HMr.out.below hb);clear hb;unfold exA
      go_upto_region 10 with(fail)
      have hb:=(Below.refl wa.heap.size wa).alloc (Nat.le_refl _) (.cells (exA x A1 ca1 B1 cb1) 26);have HExb:=Hd (show RowX (wa.alloc (.cells (exA x A1 ca1 B1 cb1) 26)) wa.heap.size x A1 ca1 B1 cb1 from heap_alloc_new _ _);have HXxb:=Hd (HXxa.out.below hb);unfold exA at hb HExb HXxb;generalize wa.alloc _=wb at *;have HBb:=Hd (HBa.out.trans (hb.mono HBa.out.size));have HLb:=Hd (HLa.out.below hb);have HMb:=Hd (HMa.out.below hb);clear hb;generalize wa.heap.size=eb at *
      go_wp2_with fail
      refine(HP2.out wb _ c HMb.out).mono ?_;rintro e wc ⟨hb,A2,ca2,B2,cb2,rfl,hx⟩;have HXyc:=Hd hx;clear hx;have HBc:=Hd (HBb.out.trans (hb.mono HBb.out.size));have HLc:=Hd (HLb.out.below hb);have HMc:=Hd (HMb.out.below hb);have HExc:=Hd (show RowX wc eb x A1 ca1 B1 cb1 from(hb.block _ HExb.out.lt).trans HExb.out);have HXxc:=Hd (HXxb.out.below hb);clear hb;unfold exA
      go_upto_region 14 with(fail)
      have hb:=(Below.refl wc.heap.size wc).alloc (Nat.le_refl _) (.cells (exA x A2 ca2 B2 cb2) 26);have HEyd:=Hd (show RowX (wc.alloc (.cells (exA x A2 ca2 B2 cb2) 26)) wc.heap.size x A2 ca2 B2 cb2 from heap_alloc_new _ _);have HXyd:=Hd (HXyc.out.below hb);unfold exA at hb HEyd HXyd;generalize wc.alloc _=wd at *;have HBd:=Hd (HBc.out.trans (hb.mono HBc.out.size));have HLd:=Hd (HLc.out.below hb);have HMd:=Hd (HMc.out.below hb);have HExd:=Hd (show RowX wd eb x A1 ca1 B1 cb1 from(hb.block _ HExc.out.lt).trans HExc.out);have HXxd:=Hd (HXxc.out.below hb);clear hb;generalize wc.heap.size=fb at *
      go_wp2_with fail
      refine(HW1.out wd _ cap HLd.out).mono ?_;rintro e we ⟨hb,rfl⟩;have HBe:=Hd (HBd.out.trans (hb.mono HBd.out.size));have HLe:=Hd (HLd.out.below hb);have HMe:=Hd (HMd.out.below hb);have HExe:=Hd (show RowX we eb x A1 ca1 B1 cb1 from(hb.block _ HExd.out.lt).trans HExd.out);have HXxe:=Hd (HXxd.out.below hb);have HEye:=Hd (show RowX we fb x A2 ca2 B2 cb2 from(hb.block _ HEyd.out.lt).trans HEyd.out);have HXye:=Hd (HXyd.out.below hb);clear hb
      go_wp2_with fail
      refine(HW2.out we _ c HMe.out).mono ?_;rintro e wf ⟨hb,rfl⟩;have HBf:=Hd (HBe.out.trans (hb.mono HBe.out.size));have HLf:=Hd (HLe.out.below hb);have HMf:=Hd (HMe.out.below hb);have HExf:=Hd (show RowX wf eb x A1 ca1 B1 cb1 from(hb.block _ HExe.out.lt).trans HExe.out);have HXxf:=Hd (HXxe.out.below hb);have HEyf:=Hd (show RowX wf fb x A2 ca2 B2 cb2 from(hb.block _ HEye.out.lt).trans HEye.out);have HXyf:=Hd (HXye.out.below hb);clear hb;have hw1:IntKind.i64.wrap ((n:Int)-1)=((n-1:Nat):Int):=by rw[IntKind.wrap_i64];omega
      have hm0:(0:Int)<(n:Int):=by omega
      have hdm:decide ((0:Int)<(n:Int))=true:=decide_eq_true hm0;have hm1:n-1≤cap:=by omega
      have hm2:((n-1:Nat):Int)≤(cap:Int):=by omega
      have hm3:(0:Int)≤((n-1:Nat):Int):=by omega
      go_upto_region 17 with(fail)
      go_wp2_with fail
      refine(HP3.out wf _ cap (HLf.out.take_ (by omega))).mono ?_;rintro e wg ⟨hb,A3,ca3,B3,cb3,rfl,hx⟩;have HXzg:=Hd hx;clear hx;have HBg:=Hd (HBf.out.trans (hb.mono HBf.out.size));have HLg:=Hd (HLf.out.below hb);have HMg:=Hd (HMf.out.below hb);have HExg:=Hd (show RowX wg eb x A1 ca1 B1 cb1 from(hb.block _ HExf.out.lt).trans HExf.out);have HXxg:=Hd (HXxf.out.below hb);have HEyg:=Hd (show RowX wg fb x A2 ca2 B2 cb2 from(hb.block _ HEyf.out.lt).trans HEyf.out);have HXyg:=Hd (HXyf.out.below hb);clear hb;unfold exA
      go_upto_region 18 with(fail)
      have hb:=(Below.refl wg.heap.size wg).alloc (Nat.le_refl _) (.cells (exA y A3 ca3 B3 cb3) 26);have HEzh:=Hd (show RowX (wg.alloc (.cells (exA y A3 ca3 B3 cb3) 26)) wg.heap.size y A3 ca3 B3 cb3 from heap_alloc_new _ _);have HXzh:=Hd (HXzg.out.below hb);unfold exA at hb HEzh HXzh;generalize wg.alloc _=wh at *;have HBh:=Hd (HBg.out.trans (hb.mono HBg.out.size));have HLh:=Hd (HLg.out.below hb);have HMh:=Hd (HMg.out.below hb);have HExh:=Hd (show RowX wh eb x A1 ca1 B1 cb1 from(hb.block _ HExg.out.lt).trans HExg.out);have HXxh:=Hd (HXxg.out.below hb);have HEyh:=Hd (show RowX wh fb x A2 ca2 B2 cb2 from(hb.block _ HEyg.out.lt).trans HEyg.out);have HXyh:=Hd (HXyg.out.below hb);clear hb;generalize wg.heap.size=hd at *;clear HP1 HP2 HP3 HW1 HW2 hw1 hm0 hm1 hm2 hm3 HEzh HXzh HXzg;have hts1:(s1.toList==s1.toList)=true:=by simp
      have hts2:(s2.toList==s2.toList)=true:=by simp
      by_cases hf:(f3 != 1)=true
      · obtain⟨h1n,h6⟩:=HSX.out hf;obtain⟨b9,off9,e9,hb9,hcs⟩:=HLh.out.2.2 hn0;injection e9 with e9;injection e9 with e9 e10;subst e9 e10;have t6:=(hcs (n-2) (by omega)).1;rw[h6,Nat.zero_add] at t6;have hw2:IntKind.i64.wrap ((n:Int)-2)=((n-2:Nat):Int):=by rw[IntKind.wrap_i64];omega
        have hd2:decide ((1:Int)<(n:Int))=true:=decide_eq_true (by omega);have hx1:(1:Int)<(n:Int):=by omega
        have hx2:((n-2:Nat):Int)<(n:Int):=by omega
        have hx3:(0:Int)≤((n-2:Nat):Int):=by omega
        have hx4:n-2<n:=by omega
        clear hcs h6;generalize hm:n-2=m at *;obtain⟨e0,e1,e2,e3,e4,e5⟩:=HExh.out.cells;obtain⟨k0,k1,k2,k3,k4,k5⟩:=HEyh.out.cells;have HSS:=Hd (refSame x A1 ca1 B1 cb1 x A2 ca2 B2 cb2 wh HXxh.out HXyh.out);rw[sameX_refl] at HSS
        go_wp2_with fail
        refine(lawNum _ _).mono ?_;rintro r wi ⟨rfl,rfl⟩
        go_wp2_with fail
        refine HSS.out.mono ?_;rintro r wk ⟨rfl,hb⟩;have HBk:=Hd (HBh.out.trans (hb.mono HBh.out.size));clear hb e0 e1 e2 e3 e4 e5 k0 k1 k2 k3 k4 k5
        go_wp2_with fail
        refine(lawNum _ _).mono ?_;rintro r wi ⟨rfl,rfl⟩
        go_wp2_with fail
        refine(live_any wk (HV.out.below HBk.out)).mono ?_;rintro r wl ⟨rfl,hb⟩;have HBl:=Hd (HBk.out.trans (hb.mono HBk.out.size));clear hb
        go_wp2_with fail
        go_ret
        exact⟨rfl,HBl.out⟩
      · obtain rfl:f3=1:=by simpa using hf
        clear hf;obtain⟨e0,e1,e2,e3,e4,e5⟩:=HExh.out.cells;obtain⟨k0,k1,k2,k3,k4,k5⟩:=HEyh.out.cells;have HSS:=Hd (refSame x A1 ca1 B1 cb1 x A2 ca2 B2 cb2 wh HXxh.out HXyh.out);rw[sameX_refl] at HSS
        go_wp2_with fail
        refine(lawNum _ _).mono ?_;rintro r wi ⟨rfl,rfl⟩
        go_wp2_with fail
        refine HSS.out.mono ?_;rintro r wk ⟨rfl,hb⟩;have HBk:=Hd (HBh.out.trans (hb.mono HBh.out.size));clear hb e0 e1 e2 e3 e4 e5 k0 k1 k2 k3 k4 k5
        go_wp2_with fail
        refine(lawNum _ _).mono ?_;rintro r wi ⟨rfl,rfl⟩
        go_wp2_with fail
        refine(live_any wk (HV.out.below HBk.out)).mono ?_;rintro r wl ⟨rfl,hb⟩;have HBl:=Hd (HBk.out.trans (hb.mono HBk.out.size));clear hb
        go_wp2_with fail
        go_ret
        exact⟨rfl,HBl.out⟩
theorem parts_bad(s:ByteArray)(at_:Int)(w:World)(hs:s.size≤400)(ha:-9223372036854775808≤at_∧at_≤9223372036854775807)(hv:Vars w){p:Nat}(hl:(lexL 0 s.data.toList).2=some p):
 Calls Tryz.prog 4 #[.string s,.int .i64 at_] w fun e w'=>e=.returned (.bool true)∧Below w.heap.size w w':=by
 have HV:=Hd hv;have HA:=Hd fun w1:World=>rxAll s 400 w1 (by omega) (by omega);have HL:=Hd hl;have d1:decide ((400:Int)<(s.size:Int))=false:=decide_eq_false (by omega);have d2:decide (400<s.size)=false:=decide_eq_false (by omega);have HSZ:=Hd hs;clear hv hl hs
 go_enter Tryz.func4,Tryz.ntmps4
 go_wp2_with fail
 refine(HA.out w).mono ?_;rintro e w2 ⟨hans,hb⟩;have HB2:=Hd hb;clear hb;rcases hans with⟨p2,h2,rfl⟩|⟨h2,A,c,rfl,hR⟩
 · go_wp2_with fail
   go_loopw [8,9] (fun v i wr=>∃ k:Nat,i=.int .i64 k∧CopyR w2 41 0 [] k v wr) (fun _ i _=>0-(intOf i).toNat)
   case atStart=>exact⟨0,rfl,CopyR.start _ _ _ _⟩
   case round=>
    obtain⟨k,rfl,hrel⟩:=hrel;obtain rfl:k=0:=by have:=hrel.1;omega
    obtain⟨A4,cap,rfl,hR4,hB4⟩:=CopyR.done (n:=0) (all:=[]) rfl (by decide) hrel;have HBr:=Hd (HB2.out.trans (hB4.mono HB2.out.size));have HLr:=Hd hR4;clear hrel hR4 hB4
    have hnb:beginsB [] at_=false:=by
     cases hb:beginsB [] at_ with
     | false=>rfl
     | true=>have:=(begins_pos hb).1;simp at this
    have HP1:=Hd (paPartM (M:=906) (c:=cap) at_ HLr.out (fun t ht=>absurd ht List.not_mem_nil) (by decide) ha (by decide) (by decide));have HW1:=Hd fun(w1:World) A c (h:RdK w1 A 0 [])=>paWhen (c:=c) at_ h (fun t ht=>absurd ht List.not_mem_nil) ha;unfold PartT at HP1;unfold WhenR at HW1;rw[partO_none hnb] at HP1;rw[show whenO [] at_=(⟨#[]⟩,⟨#[]⟩,0,false) by simp[whenO,hnb]] at HW1;simp only at HP1 HW1;generalize noneX=x at *
    go_wp2_with fail
    refine HP1.out.mono ?_;rintro e wa ⟨hb,A1,ca1,B1,cb1,rfl,hx⟩;have HBa:=Hd (HBr.out.trans (hb.mono HBr.out.size));have HLa:=Hd (HLr.out.below hb);clear hb hx;unfold exA
    go_upto_region 10 with(fail)
    have hb:=(Below.refl wa.heap.size wa).alloc (Nat.le_refl _) (.cells (exA x A1 ca1 B1 cb1) 26);unfold exA at hb;generalize wa.alloc _=wb at *;have HBb:=Hd (HBa.out.trans (hb.mono HBa.out.size));have HLb:=Hd (HLa.out.below hb);clear hb
    go_wp2_with fail
    refine(HW1.out wb _ cap HLb.out).mono ?_;rintro e wc ⟨hb,rfl⟩;have HBc:=Hd (HBb.out.trans (hb.mono HBb.out.size));clear hb
    go_wp2_with fail
    refine(lawNum _ _).mono ?_;rintro r wi ⟨rfl,rfl⟩
    go_wp2_with fail
    refine(live_any wc (HV.out.below HBc.out)).mono ?_;rintro r wl ⟨rfl,hb⟩;have HBl:=Hd (HBc.out.trans (hb.mono HBc.out.size));clear hb
    go_wp2_with fail
    go_ret
    exact⟨rfl,HBl.out⟩
 · rw[HL.out] at h2
   cases h2
theorem walkParts(s:ByteArray)(at_:Int)(w:World)(hs:s.size≤9223372036854775807)(ha:-9223372036854775808≤at_∧at_≤9223372036854775807)(hv:Vars w):
 Calls Tryz.prog 4 #[.string s,.int .i64 at_] w fun e w'=>e=.returned (.bool true)∧Below w.heap.size w w':=by
 by_cases h1:400<s.size
 · have d1:decide ((400:Int)<(s.size:Int))=true:=decide_eq_true (by omega);have d2:decide (400<s.size)=true:=decide_eq_true h1;have HD:=Hd h1;have HV:=Hd hv;clear h1 hv
   go_enter Tryz.func4,Tryz.ntmps4
   go_wp2_with fail
   refine(live_any w HV.out).mono ?_;rintro r wl ⟨rfl,hb⟩;have HBl:=Hd hb;clear hb
   go_wp2_with fail
   go_ret
   exact⟨rfl,HBl.out⟩
 · cases hl:(lexL 0 s.data.toList).2 with
   | none=>exact parts_try s at_ w (by omega) ha hv hl
   | some p=>exact parts_bad s at_ w (by omega) ha hv hl
end
end Go.Proofs.YtokiaaapgkdpmaaGreatDoor
