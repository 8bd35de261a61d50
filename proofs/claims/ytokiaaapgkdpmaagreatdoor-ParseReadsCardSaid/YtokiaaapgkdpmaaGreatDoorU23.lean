/- Parts: PcB. Conditions: each theorem's own. -/
import Derived.Test.YtokiaaapgkdpmaaGreatDoorU22
namespace Go.Proofs.YtokiaaapgkdpmaaGreatDoor
set_option linter.unusedVariables false
set_option linter.unusedSimpArgs false
set_option maxRecDepth 100000
set_option maxHeartbeats 40000000
section
open Go.RowKit Go.Sort
theorem infoS:∃ i:TypeInfo,Tryz.prog.info? 9=some i∧i.size=1∧i.zero=some (.string ⟨#[]⟩)∧i.bytes=16:=by
 have h:(Tryz.prog.info? 9).map (fun i=>(i.size,i.zero,i.bytes))=some (1,some (.string ⟨#[]⟩),16):=by kernel_rfl
 cases hq:Tryz.prog.info? 9 with
 | none=>rw[hq] at h;cases h
 | some i=>
  rw[hq] at h;simp only[Option.map_some,Option.some.injEq,Prod.mk.injEq] at h;exact⟨i,rfl,h.1,h.2.1,h.2.2⟩
theorem ow_ne{w:World}{base:Nat}{e:TypeId}{size:Nat}{v:Value}{n:Nat}{xs:List Value}(h:w.ownsRow base e size v n xs){b:Nat}{cs:Array Value}{T:TypeId}{fz:Nat × Nat}(hb:w.heap[b]?=some (.cells cs T fz))(hT:e≠T):v.ownBlock≠some b:=by
 rcases h.2 with⟨rfl,_⟩|⟨g,cap,cur,rfl,hg,hh,r⟩
 · intro h;cases h
 · intro h;simp only[Value.ownBlock,Option.some.injEq] at h;subst h;rw[hh] at hb;injection hb with hb;injection hb with _ hb;exact hT hb
theorem ow_ne2{w:World}{base base':Nat}{e e':TypeId}{size size':Nat}{v v':Value}{n n':Nat}{xs xs':List Value}(h:w.ownsRow base e size v n xs)(h':w.ownsRow base' e' size' v' n' xs')(hT:e≠e'){k:Nat}(hk:v.ownBlock=some k):v'.ownBlock≠some k:=by
 rcases h'.2 with⟨rfl,_⟩|⟨g,cap,cur,rfl,hg,hh,r⟩
 · intro h;cases h
 · intro hk';simp only[Value.ownBlock,Option.some.injEq] at hk';subst hk';exact ow_ne h hh hT hk
theorem own_grown{w w':World}{base k:Nat}{v:Value}{e:TypeId}{size:Nat}{xs:List Value}{row:Option Nat}(h:w.ownsRow base e size v k xs)(hg:w.grownBy w' row)(hn:∀ g,v.ownBlock=some g→row≠some g):w'.ownsRow base e size v k xs:=by
 refine⟨h.1,?_⟩;rcases h.2 with h | ⟨g,cap,cur,e1,hg2,hh,r2⟩
 · exact .inl h
 · exact .inr ⟨g,cap,cur,e1,hg2,(hg.block g (Array.getElem?_eq_some_iff.1 hh).1 (fun e=>hn g (by rw[e1];rfl) e.symm)).trans hh,r2⟩
theorem ob(A1:Option Addr)(m c:Nat):(Value.slice A1 m c).ownBlock=A1.map Addr.block:=by cases A1 <;> rfl
section
variable {w:World}{b:Nat}{A:Option Addr}{n c:Nat}{all r:List Tk}{bad:Bool}{m:Nat}
theorem nameAny(h:PSt w b A n c all r bad):Calls Tryz.prog 62 #[.pointer (some ⟨b,0,none⟩)] w fun e w' =>
 ∃ s bd r1,e=.returned (.string s)∧PSt w' b A n c all r1 bd∧Below w.heap.size (bl b w) (bl b w')∧(bd=false∧bad=false∧(∃ a,nameP r=.ok a r1∧(s=ofB a∧r1.length≤r.length))∨bd=true∧startP bad r (nameP r)=.bad r1):=
 (prName h).mono fun e w' k=>by
  cases hg:startP bad r (nameP r) with
  | ok u r1=>
   rw[hg] at k;obtain⟨k1,k2,k3⟩:=k
   have hb:bad=false:=by cases bad with
    | true=>cases hg
    | false=>rfl
   subst hb;exact⟨_,false,r1,k3,k2,k1,.inl ⟨rfl,rfl,u,hg,rfl,name_less hg⟩⟩
  | bad r1=>
   rw[hg] at k;obtain⟨k1,k2,s,k3⟩:=k;exact⟨s,true,r1,k3,k2,k1,.inr ⟨rfl,rfl⟩⟩
theorem armAny(h:PSt w b A n c all r bad):Calls Tryz.prog 64 #[.pointer (some ⟨b,0,none⟩)] w fun e w' =>
 ∃ s bd r1,e=.returned (.string s)∧PSt w' b A n c all r1 bd∧Below w.heap.size (bl b w) (bl b w')∧(bd=false∧bad=false∧(∃ a,armP r=.ok a r1∧(s=ofB a∧r1.length≤r.length))∨bd=true∧startP bad r (armP r)=.bad r1):=
 (prArm h).mono fun e w' k=>by
  cases hg:startP bad r (armP r) with
  | ok u r1=>
   rw[hg] at k;obtain⟨k1,k2,k3⟩:=k
   have hb:bad=false:=by cases bad with
    | true=>cases hg
    | false=>rfl
   subst hb;exact⟨_,false,r1,k3,k2,k1,.inl ⟨rfl,rfl,u,hg,rfl,arm_less hg⟩⟩
  | bad r1=>
   rw[hg] at k;obtain⟨k1,k2,s,k3⟩:=k;exact⟨s,true,r1,k3,k2,k1,.inr ⟨rfl,rfl⟩⟩
theorem armAnyD(h:PSt w b A n c all r bad):Calls Tryz.prog 64 #[.pointer (some ⟨b,0,none⟩)] w.drew fun e w' =>
 ∃ s bd r1,e=.returned (.string s)∧PSt w' b A n c all r1 bd∧Below w.heap.size (bl b w) (bl b w')∧(bd=false∧bad=false∧(∃ a,armP r=.ok a r1∧(s=ofB a∧r1.length≤r.length))∨bd=true∧startP bad r (armP r)=.bad r1):=
 (armAny (PSt.drew h)).mono fun e w' ⟨s,bd,r1,k1,k2,k3,k4⟩=>⟨s,bd,r1,k1,k2,kb_undrew k3,k4⟩
structure MgE (w:World) (B0 b hb:Nat) (A:Option Addr):Prop where
 gb:w.heap.size≠b
 h1:w.heap.size≤hb
 h2:hb≠b
 h3:w.heap.size≠hb
 h4:hb<B0
 bB:b<B0
 wB:w.heap.size<B0
 hA:∀ b0 off,A=some ⟨b0,off,none⟩→b0<w.heap.size
structure MgS (w v:World) (B0 b hb:Nat) (A:Option Addr) (n c:Nat) (all:List Tk) (sv:ByteArray) (arms:List ByteArray) (subs:List Ex) (na ns:Nat) (A4:Option Addr) (c4:Nat) (A5:Option Addr) (c5:Nat) (cs:List Value) (ri:List Tk) (bd:Bool):Prop where
 st:PSt v b A n c all ri bd
 kb:Below w.heap.size (bl b w) (bl b v)
 bx:RowX v hb (.mk 12 0 sv 0 arms subs) A4 c4 A5 c5
 rs:RowX v w.heap.size zX none 0 none 0
 oa:v.ownsRow B0 9 1 (.slice A4 na c4) na (arms.map Value.string)
 os:v.ownsRow B0 26 6 (.slice A5 ns c5) ns cs
 la:arms.length=na
 ls:subs.length=ns
def mgN(A4 A5:Option Addr):List Nat:=(A4.map Addr.block).toList++(A5.map Addr.block).toList
variable {v v9 u:World}{B0 hb:Nat}{sv sa:ByteArray}{arms:List ByteArray}{subs:List Ex}{na ns:Nat}{A4:Option Addr}{c4:Nat}{A5:Option Addr}{c5:Nat}{cs:List Value}{ri r1:List Tk}{bd bd1:Bool}
theorem MgS.box4(h:MgS w v B0 b hb A n c all sv arms subs na ns A4 c4 A5 c5 cs ri bd):v.cell? ⟨hb,4,none⟩=some (.slice A4 na c4):=by
 have h1:=h.bx.cells.2.2.2.2.1;simp only[Ex.arms] at h1;rwa [h.la] at h1
theorem MgS.box5(h:MgS w v B0 b hb A n c all sv arms subs na ns A4 c4 A5 c5 cs ri bd):v.cell? ⟨hb,5,none⟩=some (.slice A5 ns c5):=by
 have h1:=h.bx.cells.2.2.2.2.2;simp only[Ex.subs] at h1;rwa [h.ls] at h1
theorem MgS.ga(h:MgS w v B0 b hb A n c all sv arms subs na ns A4 c4 A5 c5 cs ri bd){g:Nat}(e:(Value.slice A4 na c4).ownBlock=some g):B0≤g∧g<v.heap.size:=h.oa.lt g e
theorem MgS.gs(h:MgS w v B0 b hb A n c all sv arms subs na ns A4 c4 A5 c5 cs ri bd){g:Nat}(e:(Value.slice A5 ns c5).ownBlock=some g):B0≤g∧g<v.heap.size:=h.os.lt g e
theorem MgS.nlt(h:MgS w v B0 b hb A n c all sv arms subs na ns A4 c4 A5 c5 cs ri bd):∀ k∈mgN A4 A5,B0≤k∧k<v.heap.size:=fun k hk=>by
 rw[mgN,List.mem_append,Option.mem_toList,Option.mem_toList] at hk;rcases hk with hk | hk
 · exact h.ga ((ob A4 na c4).trans hk)
 · exact h.gs ((ob A5 ns c5).trans hk)
theorem MgS.move(E:MgE w B0 b hb A)(h:MgS w v B0 b hb A n c all sv arms subs na ns A4 c4 A5 c5 cs ri bd)(hp:PSt u b A n c all r1 bd1)(hB:Below v.heap.size (bl b v) (bl b u)):
 MgS w u B0 b hb A n c all sv arms subs na ns A4 c4 A5 c5 cs r1 bd1:=
 ⟨hp,kb_trans h.kb hB,h.bx.kb E.h2 hB,h.rs.kb E.gb hB,own_kb h.oa (fun g e=>by have:=(h.ga e).1;have:=E.bB;omega) hB,own_kb h.os (fun g e=>by have:=(h.gs e).1;have:=E.bB;omega) hB,h.la,h.ls⟩
theorem MgS.arm(E:MgE w B0 b hb A)(h:MgS w v B0 b hb A n c all sv arms subs na ns A4 c4 A5 c5 cs ri bd){o:Obj}{g c9:Nat}(hgr:(v.alloc o).grownBy v9 (Value.slice A4 na c4).ownBlock)
 (hown:v9.ownsRow B0 9 1 (.slice (some ⟨g,0,none⟩) (na+1) c9) (na+1) (arms.map Value.string++[.string sa])):
 MgS w (v9.setRow hb (exA (.mk 12 0 sv 0 (arms++[sa]) subs) (some ⟨g,0,none⟩) c9 A5 c5)) B0 b hb A n c all sv (arms++[sa]) subs (na+1) ns (some ⟨g,0,none⟩) c9 A5 c5 cs ri bd:=by
 have hlt:=h.bx.lt;have h4:=E.h4;have hAr:∀ b0 off,A=some ⟨b0,off,none⟩→(Value.slice A4 na c4).ownBlock≠some b0:=fun b0 off e e2=>by have:=E.hA b0 off e;have:=(h.ga e2).1;have:=E.wB;omega
 have h9:PSt v9 b A n c all ri bd:=(h.st.alloc o).grown hgr (fun e=>by have:=(h.ga e).1;have:=E.bB;omega) hAr;refine⟨h9.setRow E.h2 (fun b0 off e=>by have:=E.hA b0 off e;have:=E.h1;omega) _,kb_setRow (kb_grown (kb_alloc h.kb h.st.lt o) hgr (fun k e=>by have:=(h.ga e).1;have:=E.wB;omega)) E.h2 E.h1 _,((h.bx.alloc o).grown hgr (fun e=>by have:=(h.ga e).1;omega)).set,((h.rs.alloc o).grown hgr (fun e=>by have:=(h.ga e).1;have:=E.wB;omega)).other E.h3 _,?_,own_set (own_grown (own_alloc h.os o) hgr (fun g e=>fun e2=>ow_ne2 h.oa h.os (by decide) e2 e)) (fun g e=>by have:=(h.gs e).1;omega) _,by simp[h.la],h.ls⟩;have h5:=own_set (cs:=exA (.mk 12 0 sv 0 (arms++[sa]) subs) (some ⟨g,0,none⟩) c9 A5 c5) hown (h:=hb) (fun g2 e=>by have:=(hown.lt g2 e).1;omega);rwa [List.map_append]
theorem MgS.sub(E:MgE w B0 b hb A)(h:MgS w v B0 b hb A n c all sv arms subs na ns A4 c4 A5 c5 cs ri bd){o:Obj}{g c9:Nat}{y:Ex}{cs2:List Value}(hgr:(v.alloc o).grownBy v9 (Value.slice A5 ns c5).ownBlock)
 (hown:v9.ownsRow B0 26 6 (.slice (some ⟨g,0,none⟩) (ns+1) c9) (ns+1) cs2):
 MgS w (v9.setRow hb (exA (.mk 12 0 sv 0 arms (subs++[y])) A4 c4 (some ⟨g,0,none⟩) c9)) B0 b hb A n c all sv arms (subs++[y]) na (ns+1) A4 c4 (some ⟨g,0,none⟩) c9 cs2 ri bd:=by
 have hlt:=h.bx.lt;have h4:=E.h4;have hAr:∀ b0 off,A=some ⟨b0,off,none⟩→(Value.slice A5 ns c5).ownBlock≠some b0:=fun b0 off e e2=>by have:=E.hA b0 off e;have:=(h.gs e2).1;have:=E.wB;omega
 have h9:PSt v9 b A n c all ri bd:=(h.st.alloc o).grown hgr (fun e=>by have:=(h.gs e).1;have:=E.bB;omega) hAr;exact⟨h9.setRow E.h2 (fun b0 off e=>by have:=E.hA b0 off e;have:=E.h1;omega) _,kb_setRow (kb_grown (kb_alloc h.kb h.st.lt o) hgr (fun k e=>by have:=(h.gs e).1;have:=E.wB;omega)) E.h2 E.h1 _,((h.bx.alloc o).grown hgr (fun e=>by have:=(h.gs e).1;omega)).set,((h.rs.alloc o).grown hgr (fun e=>by have:=(h.gs e).1;have:=E.wB;omega)).other E.h3 _,own_set (own_grown (own_alloc h.oa o) hgr (fun g e=>fun e2=>ow_ne2 h.os h.oa (by decide) e2 e)) (fun g e=>by have:=(h.ga e).1;omega) _,own_set hown (fun g2 e=>by have:=(hown.lt g2 e).1;omega) _,h.la,by simp[h.ls]⟩
theorem grow_keep{o:Obj}{row:Option Nat}(hgr:(v.alloc o).grownBy v9 row)(h4:hb<B0)(X:Array Value):v.heap.size≤(v9.setRow hb X).heap.size∧∀ p x,B0≤p.block→row≠some p.block→v.cell? p=some x→(v9.setRow hb X).cell? p=some x:=by
 have hsz:v.heap.size<(v.alloc o).heap.size:=by simp
 have hs9:=hgr.size;refine⟨by rw[setRow_size];omega,fun p x h0 hn hv=>?_⟩;have hlt:=World.block_lt_of_cell? v p hv;rw[cell_setRow_other _ _ _ _ (by omega),hgr.cell_far p (by omega) (fun e=>hn e.symm),World.cell?_alloc_lt _ _ _ hlt];exact hv
theorem MgS.treeArm(E:MgE w B0 b hb A)(h:MgS w v B0 b hb A n c all sv arms subs na ns A4 c4 A5 c5 cs ri bd){o:Obj}{g:Nat}(hgr:(v.alloc o).grownBy v9 (Value.slice A4 na c4).ownBlock)(hat:(Value.slice A4 na c4).ownBlock=some g∨g=(v.alloc o).heap.size)
 (X:Array Value) (ht:flX (fx B0 (mgN A4 A5) v) subs cs):flX (fx B0 (mgN (some ⟨g,0,none⟩) A5) (v9.setRow hb X)) subs cs:=by
 obtain⟨k1,k2⟩:=grow_keep (B0:=B0) hgr E.h4 X;refine fl_move ht k1 (fun p x q1 q2 q3=>k2 p x q1 (fun e=>q2 ?_) q3) (fun k hk=>?_)
 · rw[ob] at e
   simp[mgN,e]
 · simp only[mgN,List.mem_append,Option.mem_toList,Option.map_some,Option.toList_some,List.mem_singleton] at hk ⊢;rcases hk with rfl | hk
   · rcases hat with h5 | h5
     · rw[ob] at h5;exact .inl (.inl h5)
     · have hsz:v.heap.size<(v.alloc o).heap.size:=by simp
       exact .inr (by omega)
   · exact .inl (.inr hk)
theorem MgS.treeSub(E:MgE w B0 b hb A)(h:MgS w v B0 b hb A n c all sv arms subs na ns A4 c4 A5 c5 cs ri bd){o:Obj}{g:Nat}{y:Ex}{A8 B8:Option Addr}{ca8 cb8:Nat}(hgr:(v.alloc o).grownBy v9 (Value.slice A5 ns c5).ownBlock)(hat:(Value.slice A5 ns c5).ownBlock=some g∨g=(v.alloc o).heap.size)
 (X:Array Value) (ht:flX (fx B0 (mgN A4 A5) v) subs cs) (hy:rdX (fr u.heap.size v) y A8 B8) (hu:B0≤u.heap.size) (hn:∀ k∈mgN A4 A5,B0≤k∧k<u.heap.size):flX (fx B0 (mgN A4 (some ⟨g,0,none⟩)) (v9.setRow hb X)) (subs++[y]) (cs++exL y A8 ca8 B8 cb8):=by
 obtain⟨k1,k2⟩:=grow_keep (B0:=B0) hgr E.h4 X;have hsz:v.heap.size<(v.alloc o).heap.size:=by simp
 have hN:∀ k∈mgN A4 (some ⟨g,0,none⟩),k∈mgN A4 A5∨v.heap.size≤k:=fun k hk=>by
  simp only[mgN,List.mem_append,Option.mem_toList,Option.map_some,Option.toList_some,List.mem_singleton] at hk ⊢;rcases hk with hk | rfl
  · exact .inl (.inl hk)
  · rcases hat with h5 | h5
    · rw[ob] at h5;exact .inl (.inr h5)
    · exact .inr (by omega)
 refine flX_app ?_ (flX_one ?_)
 · refine fl_move ht k1 (fun p x q1 q2 q3=>k2 p x q1 (fun e=>q2 ?_) q3) hN;rw[ob] at e
   simp[mgN,e]
 · refine tree_in hy hu (fun k hk=>?_) k1 (fun p x q1 q2=>k2 p x (by omega) (fun e=>?_) q2)
   · rcases hN k hk with h5 | h5
     · exact .inl (hn k h5).2
     · exact .inr h5
   · rw[ob] at e;have:=(hn p.block (by simp[mgN,e])).2;omega
theorem MgS.tree(E:MgE w B0 b hb A)(h:MgS w v B0 b hb A n c all sv arms subs na ns A4 c4 A5 c5 cs ri bd)(ht:flX (fx B0 (mgN A4 A5) v) subs cs)(ha:na≤2000000)(hs:ns≤2000000):rdX (fr B0 v) (.mk 12 0 sv 0 arms subs) A4 A5:=by
 rw[rdX_eq];have h6:=row_rd (B2:=B0) h.os h.ls ht (Nat.le_refl _) (by omega);rw[← h.ls] at h6;refine⟨⟨rfl,?_,fun hn=>?_⟩,h6⟩
 · show arms.length≤_
   rw[h.la];omega
 · have hn':0<na:=by rw[← h.la];exact hn
   obtain⟨g,cap,e,_⟩:=h.oa.form hn';injection e with e _ _;subst e;have hgl:=h.oa.lt g rfl;refine⟨g,0,rfl,by rw[fr_size];exact hgl.2,fun i hi=>?_⟩;have hi':i<na:=by rw[← h.la];exact hi
   rw[fr_cell (by show B0≤g;exact hgl.1),Nat.zero_add,h.oa.cellAt i (by omega)]
   show(arms.map Value.string)[i]?=_
   simp[Ex.arms,List.getElem?_eq_getElem (show i<arms.length from hi)]
def MgR(w:World)(B0 b hb:Nat)(A:Option Addr)(n c m:Nat)(all:List Tk)(ar:Psr)(g0:PR Ex)(wr:World):Prop:=
 ∃ (sv:ByteArray) (arms:List ByteArray) (subs:List Ex) (na ns:Nat) (A4:Option Addr) (c4:Nat) (A5:Option Addr) (c5:Nat) (cs:List Value) (ri:List Tk) (bd:Bool),MgS w wr B0 b hb A n c all sv arms subs na ns A4 c4 A5 c5 cs ri bd∧na≤m+1∧ns≤m+1 ∧
  (bd=false∧(∃ f,g0=(armsP ar f arms subs ri).bind (fun z r=>.ok (.mk 12 0 sv 0 z.1 z.2) r)∧ri.length+1≤f)∧na+ri.length≤m+1∧ns+ri.length≤m+1∧ri.length≤m∧flX (fx B0 (mgN A4 A5) wr) subs cs∨bd=true∧g0=.bad ri)
theorem prMerge(ar:Psr)(HAR:SpecX 30 ar m)(hla:Less ar)(hm:m≤1000000)(h:PSt w b A n c all r false)(hr:r.length≤m):
 Calls Tryz.prog 194 #[.pointer (some ⟨b,0,none⟩)] w (PostX w b A n c all (mergeP ar r)):=by
 obtain⟨i0,hi0,hz0,hz1,hz2⟩:=infoEx;obtain⟨j0,hj,hj0,hj1,hj2⟩:=infoS;have hA:=Hd h.home;have hlt:=h.lt;have HM:=Hd (show mergeP ar r=(nameP r).bind fun s r=>(needP [40] r).bind fun _ r=>(armsP ar (r.length+1) [] [] r).bind fun z r=>.ok (Ex.mk 12 0 (ofB s) 0 z.1 z.2) r from rfl);generalize mergeP ar r=g0 at *
 go_enter Tryz.func194,Tryz.ntmps194
 go_upto_region 1 with(fail)
 generalize hw1:w.alloc _=w1;obtain⟨hP1,hR1,hB1,hgb,hg1⟩:=res_box h hw1;have HP1:=Hd hP1;have HR1:=Hd hR1;have HB1:=Hd hB1;clear hP1 hR1 hB1 hw1 h
 go_wp2_with fail
 refine(nameAny HP1.out).mono ?_;rintro x w2 ⟨sv,bd2,r2,rfl,hP,hB,hT⟩;have HP2:=Hd hP;have HB2:=Hd (kb_trans HB1.out hB);have HR2:=Hd (HR1.out.kb hgb hB);have HT2:=Hd hT;have hs2:=kb_size hB;clear hP hB hT
 go_upto_region 2 with(fail)
 generalize hw3:w2.alloc _=w3;obtain⟨hP,hE,hB,hgb3,hg3,_⟩:=ex_box (x:=.mk 12 0 sv 0 [] []) (A1:=none) (ca1:=0) (B1:=none) (cb1:=0) HP2.out hw3;have HE:=Hd (show MgE w w3.heap.size b w2.heap.size A from⟨hgb,by omega,by omega,by omega,hg3,by omega,by omega,hA.out⟩);have HS3:=Hd (show MgS w w3 w3.heap.size b w2.heap.size A n c all sv [] [] 0 0 none 0 none 0 [] r2 bd2 from⟨hP,kb_trans HB2.out hB,hE,HR2.out.kb hgb hB,World.ownsRow_nil _ _ _ _,World.ownsRow_nil _ _ _ _,rfl,rfl⟩);have hbB:b<w3.heap.size:=by omega
 have h3B:w3.heap.size≤w3.heap.size:=Nat.le_refl _;clear hP hE hB hw3 hg3 hs2 HP2 HB2 HR2 HP1 HB1 HR1;generalize hhb:w2.heap.size=hb at *;generalize hB0:w3.heap.size=B0 at HE HS3 hbB;have hB3:B0≤w3.heap.size:=by omega
 clear hB0 h3B
 go_wp2_with fail
 refine(needStep ⟨#[40]⟩ HS3.out.st).mono ?_;rintro x w4 ⟨rfl,bd4,r4,hP,hB,hN⟩;have HS4:=Hd (HS3.out.move HE.out hP hB);have hs4:=kb_size hB
 have H0:=Hd (show MgR w B0 b hb A n c m all ar g0 w4 from by
  refine⟨sv,[],[],0,0,none,0,none,0,[],r4,bd4,HS4.out,by omega,by omega,?_⟩;rcases inv_step (X:=True) (.inl ⟨rfl,HM.out,trivial⟩) (HT2.out.imp (fun⟨a1,_,a3⟩=>⟨a1,rfl,a3⟩) id) with⟨h1,⟨a,⟨q1,q2⟩,h2⟩,_⟩|⟨h1,h2⟩
  · rcases hN with⟨k1,_,u,k2,k3⟩|⟨k1,k2⟩
    · exact .inl ⟨k1,⟨r4.length+1,by rw[h2,show needP [40] r2=.ok u r4 from k2,q1];rfl,by omega⟩,by omega,by omega,by omega,rfl⟩
    · subst h1;exact .inr ⟨k1,by rw[h2,show needP [40] r2=.bad r4 from k2];rfl⟩
  · subst h1;rcases hN with⟨_,q,_⟩|⟨q1,q2⟩
    · cases q
    · have q3:(PR.bad r2:PR Unit)=.bad r4:=q2;injection q3 with q3;exact .inr ⟨q1,by rw[h2,q3]⟩)
 clear hP hB hN HS3 HS4 HT2 HM
 go_wp2_with fail
 go_loopw [9] (fun _ wr=>B0≤wr.heap.size∧MgR w B0 b hb A n c m all ar g0 wr) (fun _ wr=>leftOf b n wr)
 case atStart=>exact⟨by omega,H0.out⟩
 case round=>
  obtain⟨hB0r,sv,arms,subs,na,ns,A4,c4,A5,c5,cs,ri,bd,hS,hna,hns,hT⟩:=hrel;have HS:=Hd hS;have HT:=Hd hT;have p2:wr.cell? ⟨b,2,none⟩=some (.bool bd):=hS.st.cell 2;clear hS hT H0
  cases bd with
  | true=>
   go_wp2_with (first | (refine wpList_load_row rfl _ _ rfl (hb) rfl _ _ _ _ (HS.out.bx) Tryz.underlying26 rfl ex_info ?_) | (refine wpList_store_row rfl _ _ _ rfl (w.heap.size) _ rfl rfl _ _ (HS.out.rs) ex_info rfl (by simp[exA,Value.oneCell']) ?_))
   obtain⟨f1,f3⟩:=ex_end (x:=.mk 12 0 sv 0 arms subs) (A1:=A4) (ca1:=c4) (B1:=A5) (cb1:=c5) (B0:=B0) HS.out.kb HS.out.st HS.out.rs HE.out.gb HE.out.hA HE.out.wB (.inr ⟨rfl,(HT.out.resolve_left (by rintro ⟨h,_⟩;cases h)).2⟩);exact bodyPost_ret (res_ex rfl _ _ (w.heap.size) _ rfl rfl f3) rfl f1
  | false=>
   obtain⟨_,hg0,hn1,hn2,hrm,hfl⟩:=HT.out.resolve_right (by rintro ⟨h,_⟩;cases h);have HG0:=Hd hg0;have HFL:=Hd hfl;have hpos:=HS.out.st.pos;have HL:=Hd (left_good HS.out.st);have v4:=HS.out.box4;have l0:=HS.out.bx.lt;clear hg0 hfl HT
   go_upto_region 4 with(fail)
   go_cut [] (fun wx=>∃ (sa:ByteArray) (g2 c2:Nat) (r1:List Tk) (bd1:Bool),MgS w wx B0 b hb A n c all sv (arms++[sa]) subs (na+1) ns (some ⟨g2,0,none⟩) c2 A5 c5 cs r1 bd1∧(bd1=false∧(∃ f,g0=((needP [45,62] r1).bind fun _ r=>(ar r).bind fun y r=>(needP [41] r).bind fun _ r=>if isP [40] r=true then armsP ar f (arms++[sa]) (subs++[y]) r.tail else .ok (arms++[sa],subs++[y]) r).bind (fun z r=>.ok (.mk 12 0 sv 0 z.1 z.2) r)∧ri.length≤f)∧r1.length≤ri.length∨bd1=true∧g0=.bad r1)∧flX (fx B0 (mgN (some ⟨g2,0,none⟩) A5) wx) subs cs∧B0≤wx.heap.size)
   case first=>
    refine wp_region_held_drew (S:=(fun _=>True)) (by kernel_rfl) ?_ (fun hHeld=>?_)
    · exact trivial
    refine wpAnyH_take (i:=0) (oi:=?oi6) (v:=.pointer (some ⟨hb,4,none⟩)) ?h1x6 (by kernel_rfl) ?h3x6 (by kernel_rfl) ?h5x6 (Or.inl ⟨?h6x6,?h7x6⟩) hHeld ?h8x6
    case h1x6=>
     simp only[Ya,Yb,Yc];rfl
    case h3x6=>kernel_rfl
    case h5x6=>exact fun _ _ _ h=>h
    case h6x6=>rfl
    case h7x6=>
     intro W hSW
     (try dsimp only at hSW)
     go_split_ands
     first | (go_simp;done) | (go_simp;with_reducible rfl)
    (try simp only[Act.put,Yd,Ye,Yf])
    refine wpAnyH_take (i:=2) (oi:=?oi7) (v:=.pointer (some ⟨b,0,none⟩)) ?h1x7 (by kernel_rfl) ?h3x7 (by kernel_rfl) ?h5x7 (Or.inl ⟨?h6x7,?h7x7⟩) hHeld ?h8x7
    case h1x7=>
     simp only[Ya,Yb,Yc];rfl
    case h3x7=>kernel_rfl
    case h5x7=>exact fun _ _ _ h=>h
    case h6x7=>rfl
    case h7x7=>
     intro W hSW
     (try dsimp only at hSW)
     go_split_ands
     first | (go_simp;done) | (go_simp;with_reducible rfl)
    (try simp only[Act.put,Yd,Ye,Yf])
    refine wpAnyH_ready (rs:=[1,3]) (by kernel_rfl) (by simp) ?_;refine AllReadyH.cons (by rfl) (fun K hK=>?_) ?_
    · go_simp
      refine hK.out _ _ ?_ (fun hHeld=>?_)
      · exact trivial
      clear hK K
      (try simp only[Act.put,Yd,Ye,Yf])
      refine wpAnyH_ready (rs:=[3]) (by kernel_rfl) (by simp) ?_;refine AllReadyH.cons (by rfl) (fun K hK=>?_) ?_
      · go_simp
        go_at_call 64
        refine(armAnyD HS.out.st).mono ?_;rintro x w1 ⟨sa,bd1,r1,rfl,hP,hB,hT⟩;have HS1:=Hd (HS.out.move HE.out hP hB);have HT1:=Hd hT;have HK1:=Hd (Kp.of_kb hB hbB);have w4':=HS1.out.box4;have l1:=HS1.out.bx.lt;have hs1:=kb_size hB;clear hP hB hT;refine hK.out _ _ ?_ (fun hHeld=>?_)
        · exact trivial
        clear hK K
        (try simp only[Act.put,Yd,Ye,Yf])
        refine wpAnyH_ready (rs:=[4]) (by kernel_rfl) (by simp) ?_;refine AllReadyH.cons (by rfl) (fun K hK=>?_) ?_
        · go_simp
          refine hK.out _ _ ?_ (fun hHeld=>?_)
          · exact trivial
          clear hK K
          (try simp only[Act.put,Yd,Ye,Yf])
          refine wpAnyH_ready (rs:=[5]) (by kernel_rfl) (by simp) ?_;refine AllReadyH.cons (by rfl) (fun K hK=>?_) ?_
          · refine step_append_lies _ (by rfl) _ _ _ (by rfl) B0 9 j0 (.string ⟨#[]⟩) 1 16 Tryz.underlying23 hj hj1 hj0 hj2 rfl (by decide) (.slice A4 na c4) na (arms.map Value.string) (by rfl) (own_alloc HS1.out.oa _) ⟨w1.heap.size,0,none⟩ 1 1 [.string sa] (by rfl) rfl (cell_one_new _ _ _) (fun u hu=>by rw[List.mem_singleton.1 hu];rfl) (by omega) (by unfold maxLen;omega) (by omega) (by simp;omega) _ rfl ?_;intro g2 c2 w2 hown2 hgr2 hat2 hlt2;have HOW2:=Hd hown2;have HG2:=Hd hgr2;have HAT2:=Hd hat2;have hE2:=(HS1.out.bx.alloc _).grown hgr2 (fun e=>by have:=(HS1.out.ga e).1;have:=HE.out.h4;omega);have HE2:=Hd hE2;have y4:w2.cell? ⟨hb,4,none⟩=some (.slice A4 na c4):=by have h:=hE2.cells.2.2.2.2.1;simp only[Ex.arms] at h;rwa [HS1.out.la] at h
            have z4:=hE2.fz 4;clear hown2 hgr2 hat2 hE2;refine hK.out _ _ ?_ (fun hHeld=>?_)
            · exact trivial
            clear hK K
            (try simp only[Act.put,Yd,Ye,Yf])
            refine wpAnyH_take (i:=6) (oi:=?oi8) (v:=.pointer (some ⟨hb,4,none⟩)) ?h1x8 (by kernel_rfl) ?h3x8 (by kernel_rfl) ?h5x8 (Or.inl ⟨?h6x8,?h7x8⟩) hHeld ?h8x8
            case h1x8=>
             simp only[Ya,Yb,Yc];rfl
            case h3x8=>kernel_rfl
            case h5x8=>exact fun _ _ _ h=>h
            case h6x8=>rfl
            case h7x8=>
             intro W hSW
             (try dsimp only at hSW)
             go_split_ands
             first | (go_simp;done) | (go_simp;with_reducible rfl)
            (try simp only[Act.put,Yd,Ye,Yf])
            refine wpAnyH_ready (rs:=[7]) (by kernel_rfl) (by simp) ?_;refine AllReadyH.cons (by rfl) (fun K hK=>?_) ?_
            · go_simp
              refine hK.out _ _ ?_ (fun hHeld=>?_)
              · exact trivial
              clear hK K
              (try simp only[Act.put,Yd,Ye,Yf])
              refine wpAnyH_done (by kernel_rfl) ?_ _
              go_wp2_with fail
              have HS3:=Hd (HS1.out.arm HE.out HG2.out HOW2.out)
              have HI3:=Hd (show bd1=false∧(∃ f,g0=((needP [45,62] r1).bind fun _ r=>(ar r).bind fun y r=>(needP [41] r).bind fun _ r=>if isP [40] r=true then armsP ar f (arms++[sa]) (subs++[y]) r.tail else .ok (arms++[sa],subs++[y]) r).bind (fun z r=>.ok (.mk 12 0 sv 0 z.1 z.2) r)∧ri.length≤f)∧r1.length≤ri.length∨bd1=true∧g0=.bad r1 from by
               obtain⟨f,h2,h3⟩:=HG0.out;obtain⟨f,rfl⟩:∃ f',f=f'+1:=⟨f-1,by omega⟩;rcases HT1.out with⟨q1,_,a,q2,rfl,q3⟩|⟨q1,q2⟩
               · exact .inl ⟨q1,⟨f,by rw[h2,armsP,q2];rfl,by omega⟩,q3⟩
               · exact .inr ⟨q1,by rw[h2,armsP,show armP ri=.bad r1 from q2];rfl⟩)
              have HF3:=Hd (HS1.out.treeArm HE.out HG2.out HAT2.out (exA (.mk 12 0 sv 0 (arms++[sa]) subs) (some ⟨g2,0,none⟩) c2 A5 c5) (fl_move HFL.out HK1.out.1 (fun p v k1 _ k3=>HK1.out.2 p v k1 k3) (fun k hk=>.inl hk)));have hB3:B0≤(w2.setRow hb (exA (.mk 12 0 sv 0 (arms++[sa]) subs) (some ⟨g2,0,none⟩) c2 A5 c5)).heap.size:=by rw[setRow_size];have:=HG2.out.size;simp at this;omega
              go_meet
              case rel=>
               rw[set_four HE2.out (ar':=arms++[sa]) (some ⟨g2,0,none⟩) (na+1) c2 (by rw[List.length_append,HS1.out.la];rfl)];exact⟨sa,g2,c2,r1,bd1,HS3.out,HI3.out,HF3.out,hB3⟩
            exact AllReadyH.nil
          exact AllReadyH.nil
        exact AllReadyH.nil
      exact AllReadyH.nil
    refine AllReadyH.cons (by rfl) (fun K hK=>?_) ?_
    · go_simp
      go_at_call 64
      refine(armAnyD HS.out.st).mono ?_;rintro x w1 ⟨sa,bd1,r1,rfl,hP,hB,hT⟩;have HS1:=Hd (HS.out.move HE.out hP hB);have HT1:=Hd hT;have HK1:=Hd (Kp.of_kb hB hbB);have w4':=HS1.out.box4;have l1:=HS1.out.bx.lt;have hs1:=kb_size hB;clear hP hB hT;refine hK.out _ _ ?_ (fun hHeld=>?_)
      · exact trivial
      clear hK K
      (try simp only[Act.put,Yd,Ye,Yf])
      refine wpAnyH_ready (rs:=[1,4]) (by kernel_rfl) (by simp) ?_;refine AllReadyH.cons (by rfl) (fun K hK=>?_) ?_
      · go_simp
        refine hK.out _ _ ?_ (fun hHeld=>?_)
        · exact trivial
        clear hK K
        (try simp only[Act.put,Yd,Ye,Yf])
        refine wpAnyH_ready (rs:=[4]) (by kernel_rfl) (by simp) ?_;refine AllReadyH.cons (by rfl) (fun K hK=>?_) ?_
        · go_simp
          refine hK.out _ _ ?_ (fun hHeld=>?_)
          · exact trivial
          clear hK K
          (try simp only[Act.put,Yd,Ye,Yf])
          refine wpAnyH_ready (rs:=[5]) (by kernel_rfl) (by simp) ?_;refine AllReadyH.cons (by rfl) (fun K hK=>?_) ?_
          · refine step_append_lies _ (by rfl) _ _ _ (by rfl) B0 9 j0 (.string ⟨#[]⟩) 1 16 Tryz.underlying23 hj hj1 hj0 hj2 rfl (by decide) (.slice A4 na c4) na (arms.map Value.string) (by rfl) (own_alloc HS1.out.oa _) ⟨w1.heap.size,0,none⟩ 1 1 [.string sa] (by rfl) rfl (cell_one_new _ _ _) (fun u hu=>by rw[List.mem_singleton.1 hu];rfl) (by omega) (by unfold maxLen;omega) (by omega) (by simp;omega) _ rfl ?_;intro g2 c2 w2 hown2 hgr2 hat2 hlt2;have HOW2:=Hd hown2;have HG2:=Hd hgr2;have HAT2:=Hd hat2;have hE2:=(HS1.out.bx.alloc _).grown hgr2 (fun e=>by have:=(HS1.out.ga e).1;have:=HE.out.h4;omega);have HE2:=Hd hE2;have y4:w2.cell? ⟨hb,4,none⟩=some (.slice A4 na c4):=by have h:=hE2.cells.2.2.2.2.1;simp only[Ex.arms] at h;rwa [HS1.out.la] at h
            have z4:=hE2.fz 4;clear hown2 hgr2 hat2 hE2;refine hK.out _ _ ?_ (fun hHeld=>?_)
            · exact trivial
            clear hK K
            (try simp only[Act.put,Yd,Ye,Yf])
            refine wpAnyH_take (i:=6) (oi:=?oi9) (v:=.pointer (some ⟨hb,4,none⟩)) ?h1x9 (by kernel_rfl) ?h3x9 (by kernel_rfl) ?h5x9 (Or.inl ⟨?h6x9,?h7x9⟩) hHeld ?h8x9
            case h1x9=>
             simp only[Ya,Yb,Yc];rfl
            case h3x9=>kernel_rfl
            case h5x9=>exact fun _ _ _ h=>h
            case h6x9=>rfl
            case h7x9=>
             intro W hSW
             (try dsimp only at hSW)
             go_split_ands
             first | (go_simp;done) | (go_simp;with_reducible rfl)
            (try simp only[Act.put,Yd,Ye,Yf])
            refine wpAnyH_ready (rs:=[7]) (by kernel_rfl) (by simp) ?_;refine AllReadyH.cons (by rfl) (fun K hK=>?_) ?_
            · go_simp
              refine hK.out _ _ ?_ (fun hHeld=>?_)
              · exact trivial
              clear hK K
              (try simp only[Act.put,Yd,Ye,Yf])
              refine wpAnyH_done (by kernel_rfl) ?_ _
              go_wp2_with fail
              have HS3:=Hd (HS1.out.arm HE.out HG2.out HOW2.out)
              have HI3:=Hd (show bd1=false∧(∃ f,g0=((needP [45,62] r1).bind fun _ r=>(ar r).bind fun y r=>(needP [41] r).bind fun _ r=>if isP [40] r=true then armsP ar f (arms++[sa]) (subs++[y]) r.tail else .ok (arms++[sa],subs++[y]) r).bind (fun z r=>.ok (.mk 12 0 sv 0 z.1 z.2) r)∧ri.length≤f)∧r1.length≤ri.length∨bd1=true∧g0=.bad r1 from by
               obtain⟨f,h2,h3⟩:=HG0.out;obtain⟨f,rfl⟩:∃ f',f=f'+1:=⟨f-1,by omega⟩;rcases HT1.out with⟨q1,_,a,q2,rfl,q3⟩|⟨q1,q2⟩
               · exact .inl ⟨q1,⟨f,by rw[h2,armsP,q2];rfl,by omega⟩,q3⟩
               · exact .inr ⟨q1,by rw[h2,armsP,show armP ri=.bad r1 from q2];rfl⟩)
              have HF3:=Hd (HS1.out.treeArm HE.out HG2.out HAT2.out (exA (.mk 12 0 sv 0 (arms++[sa]) subs) (some ⟨g2,0,none⟩) c2 A5 c5) (fl_move HFL.out HK1.out.1 (fun p v k1 _ k3=>HK1.out.2 p v k1 k3) (fun k hk=>.inl hk)));have hB3:B0≤(w2.setRow hb (exA (.mk 12 0 sv 0 (arms++[sa]) subs) (some ⟨g2,0,none⟩) c2 A5 c5)).heap.size:=by rw[setRow_size];have:=HG2.out.size;simp at this;omega
              go_meet
              case rel=>
               rw[set_four HE2.out (ar':=arms++[sa]) (some ⟨g2,0,none⟩) (na+1) c2 (by rw[List.length_append,HS1.out.la];rfl)];exact⟨sa,g2,c2,r1,bd1,HS3.out,HI3.out,HF3.out,hB3⟩
            exact AllReadyH.nil
          exact AllReadyH.nil
        exact AllReadyH.nil
      refine AllReadyH.cons (by rfl) (fun K hK=>?_) ?_
      · go_simp
        refine hK.out _ _ ?_ (fun hHeld=>?_)
        · exact trivial
        clear hK K
        (try simp only[Act.put,Yd,Ye,Yf])
        refine wpAnyH_ready (rs:=[1]) (by kernel_rfl) (by simp) ?_;refine AllReadyH.cons (by rfl) (fun K hK=>?_) ?_
        · go_simp
          refine hK.out _ _ ?_ (fun hHeld=>?_)
          · exact trivial
          clear hK K
          (try simp only[Act.put,Yd,Ye,Yf])
          refine wpAnyH_ready (rs:=[5]) (by kernel_rfl) (by simp) ?_;refine AllReadyH.cons (by rfl) (fun K hK=>?_) ?_
          · refine step_append_lies _ (by rfl) _ _ _ (by rfl) B0 9 j0 (.string ⟨#[]⟩) 1 16 Tryz.underlying23 hj hj1 hj0 hj2 rfl (by decide) (.slice A4 na c4) na (arms.map Value.string) (by rfl) (own_alloc HS1.out.oa _) ⟨w1.heap.size,0,none⟩ 1 1 [.string sa] (by rfl) rfl (cell_one_new _ _ _) (fun u hu=>by rw[List.mem_singleton.1 hu];rfl) (by omega) (by unfold maxLen;omega) (by omega) (by simp;omega) _ rfl ?_;intro g2 c2 w2 hown2 hgr2 hat2 hlt2;have HOW2:=Hd hown2;have HG2:=Hd hgr2;have HAT2:=Hd hat2;have hE2:=(HS1.out.bx.alloc _).grown hgr2 (fun e=>by have:=(HS1.out.ga e).1;have:=HE.out.h4;omega);have HE2:=Hd hE2;have y4:w2.cell? ⟨hb,4,none⟩=some (.slice A4 na c4):=by have h:=hE2.cells.2.2.2.2.1;simp only[Ex.arms] at h;rwa [HS1.out.la] at h
            have z4:=hE2.fz 4;clear hown2 hgr2 hat2 hE2;refine hK.out _ _ ?_ (fun hHeld=>?_)
            · exact trivial
            clear hK K
            (try simp only[Act.put,Yd,Ye,Yf])
            refine wpAnyH_take (i:=6) (oi:=?oi10) (v:=.pointer (some ⟨hb,4,none⟩)) ?h1x10 (by kernel_rfl) ?h3x10 (by kernel_rfl) ?h5x10 (Or.inl ⟨?h6x10,?h7x10⟩) hHeld ?h8x10
            case h1x10=>
             simp only[Ya,Yb,Yc];rfl
            case h3x10=>kernel_rfl
            case h5x10=>exact fun _ _ _ h=>h
            case h6x10=>rfl
            case h7x10=>
             intro W hSW
             (try dsimp only at hSW)
             go_split_ands
             first | (go_simp;done) | (go_simp;with_reducible rfl)
            (try simp only[Act.put,Yd,Ye,Yf])
            refine wpAnyH_ready (rs:=[7]) (by kernel_rfl) (by simp) ?_;refine AllReadyH.cons (by rfl) (fun K hK=>?_) ?_
            · go_simp
              refine hK.out _ _ ?_ (fun hHeld=>?_)
              · exact trivial
              clear hK K
              (try simp only[Act.put,Yd,Ye,Yf])
              refine wpAnyH_done (by kernel_rfl) ?_ _
              go_wp2_with fail
              have HS3:=Hd (HS1.out.arm HE.out HG2.out HOW2.out)
              have HI3:=Hd (show bd1=false∧(∃ f,g0=((needP [45,62] r1).bind fun _ r=>(ar r).bind fun y r=>(needP [41] r).bind fun _ r=>if isP [40] r=true then armsP ar f (arms++[sa]) (subs++[y]) r.tail else .ok (arms++[sa],subs++[y]) r).bind (fun z r=>.ok (.mk 12 0 sv 0 z.1 z.2) r)∧ri.length≤f)∧r1.length≤ri.length∨bd1=true∧g0=.bad r1 from by
               obtain⟨f,h2,h3⟩:=HG0.out;obtain⟨f,rfl⟩:∃ f',f=f'+1:=⟨f-1,by omega⟩;rcases HT1.out with⟨q1,_,a,q2,rfl,q3⟩|⟨q1,q2⟩
               · exact .inl ⟨q1,⟨f,by rw[h2,armsP,q2];rfl,by omega⟩,q3⟩
               · exact .inr ⟨q1,by rw[h2,armsP,show armP ri=.bad r1 from q2];rfl⟩)
              have HF3:=Hd (HS1.out.treeArm HE.out HG2.out HAT2.out (exA (.mk 12 0 sv 0 (arms++[sa]) subs) (some ⟨g2,0,none⟩) c2 A5 c5) (fl_move HFL.out HK1.out.1 (fun p v k1 _ k3=>HK1.out.2 p v k1 k3) (fun k hk=>.inl hk)));have hB3:B0≤(w2.setRow hb (exA (.mk 12 0 sv 0 (arms++[sa]) subs) (some ⟨g2,0,none⟩) c2 A5 c5)).heap.size:=by rw[setRow_size];have:=HG2.out.size;simp at this;omega
              go_meet
              case rel=>
               rw[set_four HE2.out (ar':=arms++[sa]) (some ⟨g2,0,none⟩) (na+1) c2 (by rw[List.length_append,HS1.out.la];rfl)];exact⟨sa,g2,c2,r1,bd1,HS3.out,HI3.out,HF3.out,hB3⟩
            exact AllReadyH.nil
          exact AllReadyH.nil
        exact AllReadyH.nil
      exact AllReadyH.nil
    exact AllReadyH.nil
   case rest=>
    obtain⟨sa,g2,c2,r1,bd1,hS3,hI3,hF3,hB3⟩:=hcut;have HS3:=Hd hS3;have HI3:=Hd hI3;have HF3:=Hd hF3;clear hS3 hI3 hF3 HS HFL HG0 v4 l0
    go_wp2_with fail
    refine(needStep ⟨#[45,62]⟩ HS3.out.st).mono ?_;rintro x w4 ⟨rfl,bd4,r4,hP,hB,hN⟩;have HS4:=Hd (HS3.out.move HE.out hP hB);have HK4:=Hd (Kp.of_kb hB hbB);have hs4:=kb_size hB
    have HI4:=Hd (show bd4=false∧(∃ f,g0=((ar r4).bind fun y r=>(needP [41] r).bind fun _ r=>if isP [40] r=true then armsP ar f (arms++[sa]) (subs++[y]) r.tail else .ok (arms++[sa],subs++[y]) r).bind (fun z r=>.ok (.mk 12 0 sv 0 z.1 z.2) r)∧ri.length≤f)∧r4.length≤m∨bd4=true∧g0=.bad r4 from by
     rcases HI3.out with⟨h1,⟨f,h2,h3⟩,h4⟩|⟨h1,h2⟩
     · rcases hN with⟨q1,_,u,q2,q3⟩|⟨q1,q2⟩
       · exact .inl ⟨q1,⟨f,by rw[h2,show needP [45,62] r1=.ok u r4 from q2];rfl,h3⟩,by omega⟩
       · subst h1;exact .inr ⟨q1,by rw[h2,show needP [45,62] r1=.bad r4 from q2];rfl⟩
     · subst h1;rcases hN with⟨_,q,_⟩|⟨q1,q2⟩
       · cases q
       · have q3:(PR.bad r1:PR Unit)=.bad r4:=q2;injection q3 with q3;exact .inr ⟨q1,by rw[h2,q3]⟩)
    have HL4:=Hd (show bd4=false→r4.length≤ri.length from fun hq=>by
     rcases HI3.out with⟨h1,_,h4⟩|⟨h1,h2⟩
     · rcases hN with⟨q1,_,u,q2,q3⟩|⟨q1,q2⟩
       · omega
       · rw[hq] at q1;cases q1
     · rcases hN with⟨_,q,_⟩|⟨q1,q2⟩
       · rw[h1] at q;cases q
       · rw[hq] at q1;cases q1)
    have HFL4:=Hd (fl_move HF3.out HK4.out.1 (fun p v k1 _ k3=>HK4.out.2 p v k1 k3) (fun k hk=>.inl hk));have v5:=HS4.out.box5;have l4:=HS4.out.bx.lt;clear hP hB hN HS3 HI3 HF3 HK4
    go_upto_region 6 with(fail)
    go_cut [] (fun wx=>∃ (y:Ex) (cy:List Value) (g6 c6:Nat) (r5:List Tk) (bd5:Bool),MgS w wx B0 b hb A n c all sv (arms++[sa]) (subs++[y]) (na+1) (ns+1) (some ⟨g2,0,none⟩) c2 (some ⟨g6,0,none⟩) c6 cy r5 bd5∧(bd5=false∧(∃ f,g0=((needP [41] r5).bind fun _ r=>if isP [40] r=true then armsP ar f (arms++[sa]) (subs++[y]) r.tail else .ok (arms++[sa],subs++[y]) r).bind (fun z r=>.ok (.mk 12 0 sv 0 z.1 z.2) r)∧ri.length≤f)∧(r5.length≤ri.length∧flX (fx B0 (mgN (some ⟨g2,0,none⟩) (some ⟨g6,0,none⟩)) wx) (subs++[y]) cy)∨bd5=true∧g0=.bad r5))
    case first=>
     refine wp_region_held_drew (S:=(fun _=>True)) (by kernel_rfl) ?_ (fun hHeld=>?_)
     · exact trivial
     refine wpAnyH_take (i:=0) (oi:=?oi1) (v:=.pointer (some ⟨hb,5,none⟩)) ?h1x1 (by kernel_rfl) ?h3x1 (by kernel_rfl) ?h5x1 (Or.inl ⟨?h6x1,?h7x1⟩) hHeld ?h8x1
     case h1x1=>
      simp only[Ya,Yb,Yc];rfl
     case h3x1=>kernel_rfl
     case h5x1=>exact fun _ _ _ h=>h
     case h6x1=>rfl
     case h7x1=>
      intro W hSW
      (try dsimp only at hSW)
      go_split_ands
      first | (go_simp;done) | (go_simp;with_reducible rfl)
     (try simp only[Act.put,Yd,Ye,Yf])
     refine wpAnyH_take (i:=2) (oi:=?oi2) (v:=.pointer (some ⟨b,0,none⟩)) ?h1x2 (by kernel_rfl) ?h3x2 (by kernel_rfl) ?h5x2 (Or.inl ⟨?h6x2,?h7x2⟩) hHeld ?h8x2
     case h1x2=>
      simp only[Ya,Yb,Yc];rfl
     case h3x2=>kernel_rfl
     case h5x2=>exact fun _ _ _ h=>h
     case h6x2=>rfl
     case h7x2=>
      intro W hSW
      (try dsimp only at hSW)
      go_split_ands
      first | (go_simp;done) | (go_simp;with_reducible rfl)
     (try simp only[Act.put,Yd,Ye,Yf])
     refine wpAnyH_ready (rs:=[1,3]) (by kernel_rfl) (by simp) ?_;refine AllReadyH.cons (by rfl) (fun K hK=>?_) ?_
     · go_simp
       refine hK.out _ _ ?_ (fun hHeld=>?_)
       · exact trivial
       clear hK K
       (try simp only[Act.put,Yd,Ye,Yf])
       refine wpAnyH_ready (rs:=[3]) (by kernel_rfl) (by simp) ?_;refine AllReadyH.cons (by rfl) (fun K hK=>?_) ?_
       · go_simp
         go_at_call 30
         refine(arrowAnyD HAR hla HS4.out.st (fun hq=>(HI4.out.resolve_right (by rintro ⟨h,_⟩;rw[hq] at h;cases h)).2.2)).mono ?_;rintro x w5 ⟨y,A8,ca8,B8,cb8,bd5,r5,rfl,hP,hB,hT⟩;have HS5:=Hd (HS4.out.move HE.out hP hB);have HT5:=Hd hT;have HK5:=Hd (Kp.of_kb hB hbB);have w5':=HS5.out.box5;have l5:=HS5.out.bx.lt;have hs5:=kb_size hB;clear hP hB hT;unfold exA;refine hK.out _ _ ?_ (fun hHeld=>?_)
         · exact trivial
         clear hK K
         (try simp only[Act.put,Yd,Ye,Yf])
         refine wpAnyH_ready (rs:=[4]) (by kernel_rfl) (by simp) ?_;refine AllReadyH.cons (by rfl) (fun K hK=>?_) ?_
         · go_simp
           refine hK.out _ _ ?_ (fun hHeld=>?_)
           · exact trivial
           clear hK K
           (try simp only[Act.put,Yd,Ye,Yf])
           refine wpAnyH_ready (rs:=[5]) (by kernel_rfl) (by simp) ?_;refine AllReadyH.cons (by rfl) (fun K hK=>?_) ?_
           · refine step_append_lies _ (by rfl) _ _ _ (by rfl) B0 26 i0 _ 6 88 Tryz.underlying24 hi0 hz1 hz0 hz2 rfl (by decide) (.slice A5 ns c5) ns cs (by rfl) (own_alloc HS5.out.os _) ⟨w5.heap.size,0,none⟩ 1 1 (exL y A8 ca8 B8 cb8) (by rfl) rfl (fun j u hu=>World.news_of_block (heap_alloc_new _ _) j u hu) (exL_one _ _ _ _ _) (by omega) (by unfold maxLen;omega) (by omega) (by simp;omega) _ rfl ?_;intro g6 c6 w6 hown6 hgr6 hat6 hlt6;have HOW6:=Hd hown6;have HG6:=Hd hgr6;have HAT6:=Hd hat6;have hE6:=(HS5.out.bx.alloc _).grown hgr6 (fun e=>by have:=(HS5.out.gs e).1;have:=HE.out.h4;omega);have HE6:=Hd hE6;have y5:w6.cell? ⟨hb,5,none⟩=some (.slice A5 ns c5):=by have h:=hE6.cells.2.2.2.2.2;simp only[Ex.subs] at h;rwa [HS5.out.ls] at h
             have z5:=hE6.fz 5;clear hown6 hgr6 hat6 hE6;refine hK.out _ _ ?_ (fun hHeld=>?_)
             · exact trivial
             clear hK K
             (try simp only[Act.put,Yd,Ye,Yf])
             refine wpAnyH_take (i:=6) (oi:=?oi3) (v:=.pointer (some ⟨hb,5,none⟩)) ?h1x3 (by kernel_rfl) ?h3x3 (by kernel_rfl) ?h5x3 (Or.inl ⟨?h6x3,?h7x3⟩) hHeld ?h8x3
             case h1x3=>
              simp only[Ya,Yb,Yc];rfl
             case h3x3=>kernel_rfl
             case h5x3=>exact fun _ _ _ h=>h
             case h6x3=>rfl
             case h7x3=>
              intro W hSW
              (try dsimp only at hSW)
              go_split_ands
              first | (go_simp;done) | (go_simp;with_reducible rfl)
             (try simp only[Act.put,Yd,Ye,Yf])
             refine wpAnyH_ready (rs:=[7]) (by kernel_rfl) (by simp) ?_;refine AllReadyH.cons (by rfl) (fun K hK=>?_) ?_
             · go_simp
               refine hK.out _ _ ?_ (fun hHeld=>?_)
               · exact trivial
               clear hK K
               (try simp only[Act.put,Yd,Ye,Yf])
               refine wpAnyH_done (by kernel_rfl) ?_ _
               go_wp2_with fail
               have HS7:=Hd (HS5.out.sub (y:=y) HE.out HG6.out HOW6.out)
               have HI7:=Hd (show bd5=false∧(∃ f,g0=((needP [41] r5).bind fun _ r=>if isP [40] r=true then armsP ar f (arms++[sa]) (subs++[y]) r.tail else .ok (arms++[sa],subs++[y]) r).bind (fun z r=>.ok (.mk 12 0 sv 0 z.1 z.2) r)∧ri.length≤f)∧(r5.length≤ri.length∧flX (fx B0 (mgN (some ⟨g2,0,none⟩) (some ⟨g6,0,none⟩)) (w6.setRow hb (exA (.mk 12 0 sv 0 (arms++[sa]) (subs++[y])) (some ⟨g2,0,none⟩) c2 (some ⟨g6,0,none⟩) c6))) (subs++[y]) (cs++exL y A8 ca8 B8 cb8))∨bd5=true∧g0=.bad r5 from by
                rcases HI4.out with⟨h1,⟨f,h2,h3⟩,h4⟩ | h1
                · rcases HT5.out with⟨q1,_,a,q2,rfl,q3,q4⟩|⟨q1,q2⟩
                  · exact .inl ⟨q1,⟨f,by rw[h2,q2];rfl,h3⟩,by have:=HL4.out h1;omega,HS5.out.treeSub HE.out HG6.out HAT6.out _ (fl_move HFL4.out HK5.out.1 (fun p v k1 _ k3=>HK5.out.2 p v k1 k3) (fun k hk=>.inl hk)) q4 (by omega) HS4.out.nlt⟩
                  · subst h1;exact .inr ⟨q1,by rw[h2,show ar r4=.bad r5 from q2];rfl⟩
                · obtain⟨h1,h2⟩:=h1;subst h1;rcases HT5.out with⟨_,q,_⟩|⟨q1,q2⟩
                  · cases q
                  · have q3:(PR.bad r4:PR Ex)=.bad r5:=q2;injection q3 with q3;exact .inr ⟨q1,by rw[h2,q3]⟩)
               go_meet
               case rel=>
                rw[set_five HE6.out (l':=subs++[y]) (some ⟨g6,0,none⟩) (ns+1) c6 (by rw[List.length_append,HS5.out.ls];rfl)];exact⟨y,_,g6,c6,r5,bd5,HS7.out,HI7.out⟩
             exact AllReadyH.nil
           exact AllReadyH.nil
         exact AllReadyH.nil
       exact AllReadyH.nil
     refine AllReadyH.cons (by rfl) (fun K hK=>?_) ?_
     · go_simp
       go_at_call 30
       refine(arrowAnyD HAR hla HS4.out.st (fun hq=>(HI4.out.resolve_right (by rintro ⟨h,_⟩;rw[hq] at h;cases h)).2.2)).mono ?_;rintro x w5 ⟨y,A8,ca8,B8,cb8,bd5,r5,rfl,hP,hB,hT⟩;have HS5:=Hd (HS4.out.move HE.out hP hB);have HT5:=Hd hT;have HK5:=Hd (Kp.of_kb hB hbB);have w5':=HS5.out.box5;have l5:=HS5.out.bx.lt;have hs5:=kb_size hB;clear hP hB hT;unfold exA;refine hK.out _ _ ?_ (fun hHeld=>?_)
       · exact trivial
       clear hK K
       (try simp only[Act.put,Yd,Ye,Yf])
       refine wpAnyH_ready (rs:=[1,4]) (by kernel_rfl) (by simp) ?_;refine AllReadyH.cons (by rfl) (fun K hK=>?_) ?_
       · go_simp
         refine hK.out _ _ ?_ (fun hHeld=>?_)
         · exact trivial
         clear hK K
         (try simp only[Act.put,Yd,Ye,Yf])
         refine wpAnyH_ready (rs:=[4]) (by kernel_rfl) (by simp) ?_;refine AllReadyH.cons (by rfl) (fun K hK=>?_) ?_
         · go_simp
           refine hK.out _ _ ?_ (fun hHeld=>?_)
           · exact trivial
           clear hK K
           (try simp only[Act.put,Yd,Ye,Yf])
           refine wpAnyH_ready (rs:=[5]) (by kernel_rfl) (by simp) ?_;refine AllReadyH.cons (by rfl) (fun K hK=>?_) ?_
           · refine step_append_lies _ (by rfl) _ _ _ (by rfl) B0 26 i0 _ 6 88 Tryz.underlying24 hi0 hz1 hz0 hz2 rfl (by decide) (.slice A5 ns c5) ns cs (by rfl) (own_alloc HS5.out.os _) ⟨w5.heap.size,0,none⟩ 1 1 (exL y A8 ca8 B8 cb8) (by rfl) rfl (fun j u hu=>World.news_of_block (heap_alloc_new _ _) j u hu) (exL_one _ _ _ _ _) (by omega) (by unfold maxLen;omega) (by omega) (by simp;omega) _ rfl ?_;intro g6 c6 w6 hown6 hgr6 hat6 hlt6;have HOW6:=Hd hown6;have HG6:=Hd hgr6;have HAT6:=Hd hat6;have hE6:=(HS5.out.bx.alloc _).grown hgr6 (fun e=>by have:=(HS5.out.gs e).1;have:=HE.out.h4;omega);have HE6:=Hd hE6;have y5:w6.cell? ⟨hb,5,none⟩=some (.slice A5 ns c5):=by have h:=hE6.cells.2.2.2.2.2;simp only[Ex.subs] at h;rwa [HS5.out.ls] at h
             have z5:=hE6.fz 5;clear hown6 hgr6 hat6 hE6;refine hK.out _ _ ?_ (fun hHeld=>?_)
             · exact trivial
             clear hK K
             (try simp only[Act.put,Yd,Ye,Yf])
             refine wpAnyH_take (i:=6) (oi:=?oi4) (v:=.pointer (some ⟨hb,5,none⟩)) ?h1x4 (by kernel_rfl) ?h3x4 (by kernel_rfl) ?h5x4 (Or.inl ⟨?h6x4,?h7x4⟩) hHeld ?h8x4
             case h1x4=>
              simp only[Ya,Yb,Yc];rfl
             case h3x4=>kernel_rfl
             case h5x4=>exact fun _ _ _ h=>h
             case h6x4=>rfl
             case h7x4=>
              intro W hSW
              (try dsimp only at hSW)
              go_split_ands
              first | (go_simp;done) | (go_simp;with_reducible rfl)
             (try simp only[Act.put,Yd,Ye,Yf])
             refine wpAnyH_ready (rs:=[7]) (by kernel_rfl) (by simp) ?_;refine AllReadyH.cons (by rfl) (fun K hK=>?_) ?_
             · go_simp
               refine hK.out _ _ ?_ (fun hHeld=>?_)
               · exact trivial
               clear hK K
               (try simp only[Act.put,Yd,Ye,Yf])
               refine wpAnyH_done (by kernel_rfl) ?_ _
               go_wp2_with fail
               have HS7:=Hd (HS5.out.sub (y:=y) HE.out HG6.out HOW6.out)
               have HI7:=Hd (show bd5=false∧(∃ f,g0=((needP [41] r5).bind fun _ r=>if isP [40] r=true then armsP ar f (arms++[sa]) (subs++[y]) r.tail else .ok (arms++[sa],subs++[y]) r).bind (fun z r=>.ok (.mk 12 0 sv 0 z.1 z.2) r)∧ri.length≤f)∧(r5.length≤ri.length∧flX (fx B0 (mgN (some ⟨g2,0,none⟩) (some ⟨g6,0,none⟩)) (w6.setRow hb (exA (.mk 12 0 sv 0 (arms++[sa]) (subs++[y])) (some ⟨g2,0,none⟩) c2 (some ⟨g6,0,none⟩) c6))) (subs++[y]) (cs++exL y A8 ca8 B8 cb8))∨bd5=true∧g0=.bad r5 from by
                rcases HI4.out with⟨h1,⟨f,h2,h3⟩,h4⟩ | h1
                · rcases HT5.out with⟨q1,_,a,q2,rfl,q3,q4⟩|⟨q1,q2⟩
                  · exact .inl ⟨q1,⟨f,by rw[h2,q2];rfl,h3⟩,by have:=HL4.out h1;omega,HS5.out.treeSub HE.out HG6.out HAT6.out _ (fl_move HFL4.out HK5.out.1 (fun p v k1 _ k3=>HK5.out.2 p v k1 k3) (fun k hk=>.inl hk)) q4 (by omega) HS4.out.nlt⟩
                  · subst h1;exact .inr ⟨q1,by rw[h2,show ar r4=.bad r5 from q2];rfl⟩
                · obtain⟨h1,h2⟩:=h1;subst h1;rcases HT5.out with⟨_,q,_⟩|⟨q1,q2⟩
                  · cases q
                  · have q3:(PR.bad r4:PR Ex)=.bad r5:=q2;injection q3 with q3;exact .inr ⟨q1,by rw[h2,q3]⟩)
               go_meet
               case rel=>
                rw[set_five HE6.out (l':=subs++[y]) (some ⟨g6,0,none⟩) (ns+1) c6 (by rw[List.length_append,HS5.out.ls];rfl)];exact⟨y,_,g6,c6,r5,bd5,HS7.out,HI7.out⟩
             exact AllReadyH.nil
           exact AllReadyH.nil
         exact AllReadyH.nil
       refine AllReadyH.cons (by rfl) (fun K hK=>?_) ?_
       · go_simp
         refine hK.out _ _ ?_ (fun hHeld=>?_)
         · exact trivial
         clear hK K
         (try simp only[Act.put,Yd,Ye,Yf])
         refine wpAnyH_ready (rs:=[1]) (by kernel_rfl) (by simp) ?_;refine AllReadyH.cons (by rfl) (fun K hK=>?_) ?_
         · go_simp
           refine hK.out _ _ ?_ (fun hHeld=>?_)
           · exact trivial
           clear hK K
           (try simp only[Act.put,Yd,Ye,Yf])
           refine wpAnyH_ready (rs:=[5]) (by kernel_rfl) (by simp) ?_;refine AllReadyH.cons (by rfl) (fun K hK=>?_) ?_
           · refine step_append_lies _ (by rfl) _ _ _ (by rfl) B0 26 i0 _ 6 88 Tryz.underlying24 hi0 hz1 hz0 hz2 rfl (by decide) (.slice A5 ns c5) ns cs (by rfl) (own_alloc HS5.out.os _) ⟨w5.heap.size,0,none⟩ 1 1 (exL y A8 ca8 B8 cb8) (by rfl) rfl (fun j u hu=>World.news_of_block (heap_alloc_new _ _) j u hu) (exL_one _ _ _ _ _) (by omega) (by unfold maxLen;omega) (by omega) (by simp;omega) _ rfl ?_;intro g6 c6 w6 hown6 hgr6 hat6 hlt6;have HOW6:=Hd hown6;have HG6:=Hd hgr6;have HAT6:=Hd hat6;have hE6:=(HS5.out.bx.alloc _).grown hgr6 (fun e=>by have:=(HS5.out.gs e).1;have:=HE.out.h4;omega);have HE6:=Hd hE6;have y5:w6.cell? ⟨hb,5,none⟩=some (.slice A5 ns c5):=by have h:=hE6.cells.2.2.2.2.2;simp only[Ex.subs] at h;rwa [HS5.out.ls] at h
             have z5:=hE6.fz 5;clear hown6 hgr6 hat6 hE6;refine hK.out _ _ ?_ (fun hHeld=>?_)
             · exact trivial
             clear hK K
             (try simp only[Act.put,Yd,Ye,Yf])
             refine wpAnyH_take (i:=6) (oi:=?oi5) (v:=.pointer (some ⟨hb,5,none⟩)) ?h1x5 (by kernel_rfl) ?h3x5 (by kernel_rfl) ?h5x5 (Or.inl ⟨?h6x5,?h7x5⟩) hHeld ?h8x5
             case h1x5=>
              simp only[Ya,Yb,Yc];rfl
             case h3x5=>kernel_rfl
             case h5x5=>exact fun _ _ _ h=>h
             case h6x5=>rfl
             case h7x5=>
              intro W hSW
              (try dsimp only at hSW)
              go_split_ands
              first | (go_simp;done) | (go_simp;with_reducible rfl)
             (try simp only[Act.put,Yd,Ye,Yf])
             refine wpAnyH_ready (rs:=[7]) (by kernel_rfl) (by simp) ?_;refine AllReadyH.cons (by rfl) (fun K hK=>?_) ?_
             · go_simp
               refine hK.out _ _ ?_ (fun hHeld=>?_)
               · exact trivial
               clear hK K
               (try simp only[Act.put,Yd,Ye,Yf])
               refine wpAnyH_done (by kernel_rfl) ?_ _
               go_wp2_with fail
               have HS7:=Hd (HS5.out.sub (y:=y) HE.out HG6.out HOW6.out)
               have HI7:=Hd (show bd5=false∧(∃ f,g0=((needP [41] r5).bind fun _ r=>if isP [40] r=true then armsP ar f (arms++[sa]) (subs++[y]) r.tail else .ok (arms++[sa],subs++[y]) r).bind (fun z r=>.ok (.mk 12 0 sv 0 z.1 z.2) r)∧ri.length≤f)∧(r5.length≤ri.length∧flX (fx B0 (mgN (some ⟨g2,0,none⟩) (some ⟨g6,0,none⟩)) (w6.setRow hb (exA (.mk 12 0 sv 0 (arms++[sa]) (subs++[y])) (some ⟨g2,0,none⟩) c2 (some ⟨g6,0,none⟩) c6))) (subs++[y]) (cs++exL y A8 ca8 B8 cb8))∨bd5=true∧g0=.bad r5 from by
                rcases HI4.out with⟨h1,⟨f,h2,h3⟩,h4⟩ | h1
                · rcases HT5.out with⟨q1,_,a,q2,rfl,q3,q4⟩|⟨q1,q2⟩
                  · exact .inl ⟨q1,⟨f,by rw[h2,q2];rfl,h3⟩,by have:=HL4.out h1;omega,HS5.out.treeSub HE.out HG6.out HAT6.out _ (fl_move HFL4.out HK5.out.1 (fun p v k1 _ k3=>HK5.out.2 p v k1 k3) (fun k hk=>.inl hk)) q4 (by omega) HS4.out.nlt⟩
                  · subst h1;exact .inr ⟨q1,by rw[h2,show ar r4=.bad r5 from q2];rfl⟩
                · obtain⟨h1,h2⟩:=h1;subst h1;rcases HT5.out with⟨_,q,_⟩|⟨q1,q2⟩
                  · cases q
                  · have q3:(PR.bad r4:PR Ex)=.bad r5:=q2;injection q3 with q3;exact .inr ⟨q1,by rw[h2,q3]⟩)
               go_meet
               case rel=>
                rw[set_five HE6.out (l':=subs++[y]) (some ⟨g6,0,none⟩) (ns+1) c6 (by rw[List.length_append,HS5.out.ls];rfl)];exact⟨y,_,g6,c6,r5,bd5,HS7.out,HI7.out⟩
             exact AllReadyH.nil
           exact AllReadyH.nil
         exact AllReadyH.nil
       exact AllReadyH.nil
     exact AllReadyH.nil
    case rest=>
     obtain⟨y,cy,g6,c6,r5,bd5,hS7,hI7⟩:=hcut;have HS7:=Hd hS7;have HI7:=Hd hI7;clear hS7 hI7 HS4 HI4 HFL4 v5 l4
     go_wp2_with fail
     refine(needStep ⟨#[41]⟩ HS7.out.st).mono ?_;rintro x w8 ⟨rfl,bd8,r8,hP,hB,hN⟩;have HS8:=Hd (HS7.out.move HE.out hP hB);have HK8:=Hd (Kp.of_kb hB hbB)
     have HI8:=Hd (show bd8=false∧(∃ f,g0=(if isP [40] r8=true then armsP ar f (arms++[sa]) (subs++[y]) r8.tail else .ok (arms++[sa],subs++[y]) r8).bind (fun z r=>.ok (.mk 12 0 sv 0 z.1 z.2) r)∧ri.length≤f)∧(r8.length≤ri.length∧flX (fx B0 (mgN (some ⟨g2,0,none⟩) (some ⟨g6,0,none⟩)) w8) (subs++[y]) (cy))∨bd8=true∧g0=.bad r8 from by
      rcases HI7.out with⟨h1,⟨f,h2,h3⟩,h4,h5⟩|⟨h1,h2⟩
      · rcases hN with⟨q1,_,u,q2,q3⟩|⟨q1,q2⟩
        · exact .inl ⟨q1,⟨f,by rw[h2,show needP [41] r5=.ok u r8 from q2];rfl,h3⟩,by omega,fl_move h5 HK8.out.1 (fun p v k1 _ k3=>HK8.out.2 p v k1 k3) (fun k hk=>.inl hk)⟩
        · subst h1;exact .inr ⟨q1,by rw[h2,show needP [41] r5=.bad r8 from q2];rfl⟩
      · subst h1;rcases hN with⟨_,q,_⟩|⟨q1,q2⟩
        · cases q
        · have q3:(PR.bad r5:PR Unit)=.bad r8:=q2;injection q3 with q3;exact .inr ⟨q1,by rw[h2,q3]⟩)
     clear hP hB hN HI7 HS7
     cases hc:(!bd8 && isP [40] r8) with
     | true=>
      have hi:isP [40] r8=true:=by revert hc;cases bd8 <;> simp
      have hbd:bd8=false:=by revert hc;cases bd8 <;> simp
      go_wp2_with fail
      refine(take_yes ⟨#[40]⟩ (hbd ▸ HS8.out.st) hi).mono ?_;rintro x w9 ⟨rfl,hP,hB⟩;have HS9:=Hd (HS8.out.move HE.out hP hB);have HK9:=Hd (Kp.of_kb hB hbB);have HM9:=Hd (left_good hP);clear hP hB
      go_wp2_with fail
      obtain⟨_,⟨f,h2,h3⟩,h4,h5⟩:=HI8.out.resolve_right (by rintro ⟨h,_⟩;rw[hbd] at h;cases h);have hp8:=HS8.out.st.pos;have ht8:r8.tail.length=r8.length-1:=by simp
      rw[if_pos hi] at h2;have HR:=Hd (show MgR w B0 b hb A n c m all ar g0 w9 from⟨sv,arms++[sa],subs++[y],na+1,ns+1,some ⟨g2,0,none⟩,c2,some ⟨g6,0,none⟩,c6,cy,r8.tail,false,HS9.out,by omega,by omega,.inl ⟨rfl,⟨f,h2,by omega⟩,by omega,by omega,by omega,fl_move h5 HK9.out.1 (fun p v k1 _ k3=>HK9.out.2 p v k1 k3) (fun k hk=>.inl hk)⟩⟩);have HME:=Hd (show leftOf b n w9<ri.length from by rw[HM9.out];omega);clear h2 h5
      go_roundw
      case rel=>exact⟨by have h:=HS9.out.gs (g:=g6) rfl;omega,HR.out⟩
      case measure=>(rw[HL.out];exact HME.out)
     | false=>
      go_wp2_with fail
      refine(take_no ⟨#[40]⟩ HS8.out.st hc).mono ?_;rintro x w9 ⟨rfl,hP,hB⟩;have HSZ:=Hd (HS8.out.move HE.out hP hB);have HK9:=Hd (Kp.of_kb hB hbB);clear hP hB
      have hGZ:bd8=false∧g0=.ok (.mk 12 0 sv 0 (arms++[sa]) (subs++[y])) r8∧rdX (fr B0 w9) (.mk 12 0 sv 0 (arms++[sa]) (subs++[y])) (some ⟨g2,0,none⟩) (some ⟨g6,0,none⟩)∨bd8=true∧g0=.bad r8:=by
       rcases HI8.out with⟨h1,⟨f,h2,h3⟩,h4,h5⟩ | h1
       · have hi:isP [40] r8=false:=by rw[h1] at hc;simpa using hc
         rw[if_neg (by rw[hi];simp)] at h2;exact .inl ⟨h1,h2,HSZ.out.tree HE.out (fl_move h5 HK9.out.1 (fun p v k1 _ k3=>HK9.out.2 p v k1 k3) (fun k hk=>.inl hk)) (by omega) (by omega)⟩
       · exact .inr h1
      have HGZ:=Hd hGZ;clear hGZ
      go_wp2_with (first | (refine wpList_load_row rfl _ _ rfl (hb) rfl _ _ _ _ (HSZ.out.bx) Tryz.underlying26 rfl ex_info ?_) | (refine wpList_store_row rfl _ _ _ rfl (w.heap.size) _ rfl rfl _ _ (HSZ.out.rs) ex_info rfl (by simp[exA,Value.oneCell']) ?_))
      obtain⟨f1,f3⟩:=ex_end (x:=.mk 12 0 sv 0 (arms++[sa]) (subs++[y])) (A1:=some ⟨g2,0,none⟩) (ca1:=c2) (B1:=some ⟨g6,0,none⟩) (cb1:=c6) HSZ.out.kb HSZ.out.st HSZ.out.rs HE.out.gb HE.out.hA HE.out.wB HGZ.out;exact bodyPost_ret (res_ex rfl _ _ (w.heap.size) _ rfl rfl f3) rfl f1
end
end
end Go.Proofs.YtokiaaapgkdpmaaGreatDoor
