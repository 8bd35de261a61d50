/- Parts of the proof: ExZ, ExC, ArY, SpS, SpT. Conditions: each theorem's own. -/
import Derived.Deep.Slices
import Derived.Deep.Fields
import Derived.ChangeSame
import Derived.SliceStrings
import Derived.Shelf.Strings.Builder1
import Derived.Shelf.Strings.Builder2
import Derived.Shelf.Strings.OnBuilder
import Derived.Shelf.Small.Wraps
import Derived.Shelf.Strconv.Itoa0
import Derived.Shelf.Strconv.Itoa1
import Derived.Shelf.LaysM
import Derived.Shelf.Strconv.Itoa2
import Derived.Shelf.Strconv.Itoa3
import Derived.Shelf.Strconv.Itoa4
import Derived.Lib.SmallJoins
import Derived.Lib.AppendIntMem
import Derived.LaidSub
import Derived.Test.YtpedcgpcchbhpaaGreatDoorU01
namespace Go.Proofs.YtpedcgpcchbhpaaGreatDoor
set_option linter.unusedVariables false
set_option linter.unusedSimpArgs false
set_option maxRecDepth 100000
set_option maxHeartbeats 40000000
section
open Go.RowKit Go.ChangeShapes Go.WideShapes Go.Deep
theorem cells_i:Tryz.prog.cellsOf 3=1:=by kernel_rfl
theorem cells_l:Tryz.prog.cellsOf 2=1:=by kernel_rfl
theorem cells_s:Tryz.prog.cellsOf 9=1:=by kernel_rfl
theorem cells_ss:Tryz.prog.cellsOf 44=1:=by kernel_rfl
theorem cells_xs:Tryz.prog.cellsOf 45=1:=by kernel_rfl
def OkP(p:Ex):Prop:=p.s.size≤maxLen∧(∀ t∈p.arms,t.size≤maxLen)∧(Lit.int .i64 p.k).wf=true∧(Lit.int .i64 p.n).wf=true∧(Lit.int .i64 p.op).wf=true
def OkX(x:Ex):Prop:=∀ p∈partsX x,OkP p
theorem partss_mem{l:List Ex}{p:Ex}(h:p∈partssX l):∃ i,i<l.length∧p∈partsX (l[i]?.getD default):=by
 induction l with
 | nil=>simp [partssX] at h
 | cons x l ih=>
  simp only [partssX,List.mem_append] at h;rcases h with h | h
  · exact⟨0,by simp,by simpa using h⟩
  · obtain⟨i,hi,hp⟩:=ih h;exact⟨i+1,by simpa using hi,by simpa using hp⟩
theorem mem_partssZ{l:List Ex}{p:Ex}{i:Nat}(hi:i<l.length) (h:p∈partsX (l[i]?.getD default)):p∈partssX l:=by
 induction l generalizing i with
 | nil=>simp at hi
 | cons x l ih=>
  simp only [partssX,List.mem_append]
  cases i with
  | zero=>left;simpa using h
  | succ i=>right;exact ih (by simpa using hi) (by simpa using h)
theorem OkX.sub{x:Ex}(h:OkX x){i:Nat}(hi:i<x.subs.length):OkX (subX x i):=fun p hp=>h p (by
 rw [partsX_eq];exact List.mem_cons_of_mem _ (mem_partssZ hi hp))
section
variable {H:Type}{enc:TypeId × Value→H}{w:World}{base:Nat}{spare:Nat→Bool}{held:Bool}
theorem strs_openZ{fuel:Nat}{v:Value}{x:DataW H × List MemPlace}(h:DataW.trod enc Tryz.prog w base spare held fuel 44 [v]=some x):∃ A n c ss,v=.slice A n c∧RdT w A n ss∧∀ s∈ss,s.size≤maxLen:=by
 rcases Go.ChangeShapes.open_strings Tryz.underlying44 Tryz.underlying9 (by kernel_rfl) h with⟨hcs,_⟩|⟨x,l,c,ss,hcs,_,hl,hm,hss,_,hcell,hz⟩
 · simp at hcs
   subst hcs;exact⟨none,0,0,[],rfl,RdT.nil_ _,fun s hs=>by cases hs⟩
 · simp at hcs
   subst hcs;have hle:l≤ss.length:=by rw [hss];split <;> omega
   exact⟨some x,l,c,ss.take l,rfl,rdT_arg hle (by unfold maxLen at hm;omega) hcell,fun s hs=>hz s (List.mem_of_mem_take hs)⟩
end
end
section
open Go.RowKit Go.ChangeShapes Go.WideShapes Go.Deep
mutual
def capX(w:World):Ex→Option Addr→Prop
 | .mk _ _ _ _ _ subs,B=>∀ b off,B=some ⟨b,off,none⟩→capXs w subs b off
def capXs(w:World):List Ex→Nat→Nat→Prop
 | [],_,_=>True
 | x::l,b,off=>(∀ A ca B cb,w.rangeAt b off (exL x A ca B cb)→(x.k=13→x.subs.length≤cb)∧capX w x B)∧capXs w l b (off+6)
end
theorem capX_eq{w:World}{x:Ex}{B:Option Addr}:capX w x B↔∀ b off,B=some ⟨b,off,none⟩→capXs w x.subs b off:=by
 cases x
 simp only [capX,Ex.subs]
theorem capXs_at{w:World}:∀ (l:List Ex){b off:Nat},capXs w l b off→∀ i,i<l.length→∀ A ca B cb,w.rangeAt b (off+i*6) (exL (l[i]?.getD default) A ca B cb)→((l[i]?.getD default).k=13→(l[i]?.getD default).subs.length≤cb)∧capX w (l[i]?.getD default) B
 | [],_,_,_,i,hi=>absurd hi (by simp)
 | x::l,b,off,h,i,hi=>by
  simp only [capXs] at h
  cases i with
  | zero=>simpa using h.1
  | succ i=>
   have:=capXs_at l h.2 i (by simpa using hi);rw [show off+6+i*6=off+(i+1)*6 by omega] at this
   simpa using this
theorem capXs_of{w:World}:∀ (l:List Ex){b off:Nat},(∀ i,i<l.length→∀ A ca B cb,w.rangeAt b (off+i*6) (exL (l[i]?.getD default) A ca B cb)→((l[i]?.getD default).k=13→(l[i]?.getD default).subs.length≤cb)∧capX w (l[i]?.getD default) B)→capXs w l b off
 | [],_,_,_=>by simp only [capXs]
 | x::l,b,off,h=>by
  simp only [capXs];refine⟨by simpa using h 0 (by simp),capXs_of l fun i hi=>?_⟩;have:=h (i+1) (by simpa using hi);rw [show off+(i+1)*6=off+6+i*6 by omega] at this
  simpa using this
theorem rangeAt_back{w w':World}{cs:List Value}{b o:Nat}(h:w'.rangeAt b o cs) (hb:b<w.heap.size) (hk:∀ p:Addr,p.block<w.heap.size→w'.cell? p=w.cell? p):w.rangeAt b o cs:=fun j v hv=>(hk _ hb).symm.trans (h j v hv)
theorem exL_oneC{w:World}{b o:Nat}{x:Ex}{A A':Option Addr}{ca ca':Nat}{B B':Option Addr}{cb cb':Nat}(h:w.rangeAt b o (exL x A ca B cb)) (h':w.rangeAt b o (exL x A' ca' B' cb')):A=A'∧B=B'∧cb=cb':=by
 have h1:=(h 4 _ rfl).symm.trans (h' 4 _ rfl);have h2:=(h 5 _ rfl).symm.trans (h' 5 _ rfl);injection h1 with h1;injection h1 with h1 _ _;injection h2 with h2;injection h2 with h2 _ h3;exact⟨h1,h2,h3⟩
mutual
theorem capX_keep{w w':World}(hk:∀ p:Addr,p.block<w.heap.size→w'.cell? p=w.cell? p):∀ (x:Ex) (A B:Option Addr),rdX w x A B→capX w x B→capX w' x B
 | .mk k n s op arms subs,A,B,hr,h=>by
  simp only [rdX] at hr;simp only [capX] at h ⊢;intro b off e
  cases subs with
  | nil=>simp only [capXs]
  | cons y l=>
   obtain⟨b',off',e',hb,hrs⟩:=hr.2.2 (by simp);rw [e] at e';injection e' with e';injection e' with e1 e2;subst e1 e2;exact capXs_keep hk (y::l) b off hb hrs (h b off e)
theorem capXs_keep{w w':World}(hk:∀ p:Addr,p.block<w.heap.size→w'.cell? p=w.cell? p):∀ (l:List Ex) (b off:Nat),b<w.heap.size→rdXs w l b off→capXs w l b off→capXs w' l b off
 | [],_,_,_,_,_=>by simp only [capXs]
 | x::l,b,off,hb,hr,h=>by
  simp only [rdXs] at hr;simp only [capXs] at h ⊢;obtain⟨⟨A0,ca0,B0,cb0,h1,h2⟩,h3⟩:=hr;refine⟨fun A ca B cb hg=>?_,capXs_keep hk l b (off+6) hb h3 h.2⟩;have hg0:=rangeAt_back hg hb hk;obtain⟨q1,q2⟩:=h.1 A ca B cb hg0;obtain⟨e1,e2,_⟩:=exL_oneC hg0 h1;subst e1 e2;exact⟨q1,capX_keep hk x A B h2 q2⟩
end
theorem capX.below{w w':World}{x:Ex}{A B:Option Addr}(h:capX w x B) (hr:rdX w x A B) (hb:Below w.heap.size w w'):capX w' x B:=capX_keep (fun _ hp=>hb.cell hp) x A B hr h
theorem rdX.subC{w:World}{x:Ex}{A B:Option Addr}(h:rdX w x A B) (hc:capX w x B){i:Nat}(hi:i<x.subs.length):
 ∃ b off,B=some ⟨b,off,none⟩∧b<w.heap.size∧∀ i,i<x.subs.length→∃ A' ca B' cb,w.rangeAt b (off+i*6) (exL (subX x i) A' ca B' cb)∧rdX w (subX x i) A' B'∧((subX x i).k=13→(subX x i).subs.length≤cb)∧capX w (subX x i) B':=by
 obtain⟨b,off,e,hb,hat⟩:=h.sub hi;refine⟨b,off,e,hb,fun i hi=>?_⟩;obtain⟨A',ca,B',cb,hrg,hrd⟩:=hat i hi;exact⟨A',ca,B',cb,hrg,hrd,capXs_at x.subs ((capX_eq.1 hc) b off e) i hi A' ca B' cb hrg⟩
section
variable {H:Type}{enc:TypeId × Value→H}{w:World}{base:Nat}{spare:Nat→Bool}{held:Bool}
theorem ex_cellsC:∀ (fuel:Nat){cs:List Value}{x:DataW H × List MemPlace},DataW.trod enc Tryz.prog w base spare held fuel 47 cs=some x→cs.length=6 →
 ∃ (X:Ex) (A:Option Addr) (ca:Nat) (B:Option Addr) (cb:Nat),cs=exL X A ca B cb∧rdX w X A B∧OkX X∧X.subs.length≤cb∧capX w X B:=by
 intro fuel
 induction fuel using Nat.strongRecOn with
 | _ fuel ih=>
 intro cs x h hl;obtain⟨ys,m,hm,_,_,hy,hf⟩:=DataW.trod_struct Tryz.underlying47 h
 match cs,hl with
 | [v0,v1,v2,v3,v4,v5],_=>
  match ys,hy with
  | [y0,y1,y2,y3,y4,y5],_=>
   have t0:=hf 0 _ rfl;have t1:=hf 1 _ rfl;have t2:=hf 2 _ rfl;have t3:=hf 3 _ rfl;have t4:=hf 4 _ rfl;have t5:=hf 5 _ rfl
   simp [cells_i,cells_l,cells_s,cells_ss,cells_xs] at t0 t1 t2 t3 t4 t5
   obtain⟨k,e0,_,w0⟩:=DataW.trod_int Tryz.underlying3 t0;obtain⟨n,e1,_,w1⟩:=DataW.trod_int Tryz.underlying2 t1;obtain⟨s,e2,_,w2⟩:=DataW.trod_string Tryz.underlying9 t2;obtain⟨op,e3,_,w3⟩:=DataW.trod_int Tryz.underlying3 t3;injection e0 with e0;injection e1 with e1;injection e2 with e2;injection e3 with e3;subst e0 e1 e2 e3;obtain⟨A,na,ca,ss,rfl,hr,hz⟩:=strs_openZ t4;have hna:=hr.len;subst hna;rcases DataW.trod_slice Tryz.underlying45 t5 with⟨hcs,_⟩|⟨a,len,cap,elems,rest,nn,hnn,hcs,_,_,hlc,hcm,hel,hi,_,_⟩
   · simp at hcs
     subst hcs;refine⟨.mk k n s op ss [],A,ca,none,0,rfl,?_,?_,Nat.le_refl _,capX_eq.2 (by intro b off e;cases e)⟩
     · rw [rdX_eq];exact⟨hr,RdX.nil_ _⟩
     · intro p hp;simp only [partsX,partssX,List.mem_singleton] at hp;subst hp;exact⟨w2,hz,w0,w1,w3⟩
   · simp at hcs
     subst hcs
     have hone:∀ i,i<len→∃ X:Ex,(∃ A' ca' B' cb',(∀ j v,(exL X A' ca' B' cb')[j]?=some v→w.cell? (a.add (i*6+j))=some v)∧rdX w X A' B'∧X.subs.length≤cb'∧capX w X B')∧OkX X:=by
      intro i him;have h1:=hi i him;rw [List.getElem?_eq_getElem (by omega),cells_ex] at h1;obtain⟨cs',hc,ht⟩:=Option.bind_eq_some_iff.1 h1;obtain⟨_,hcl,hat⟩:=World.cells?_some hc;obtain⟨X,A',ca',B',cb',e,hrX,hok,hcl1,hcx1⟩:=ih nn (by omega) ht hcl;refine⟨X,⟨A',ca',B',cb',fun j v hj=>?_,hrX,hcl1,hcx1⟩,hok⟩
      have hj6:j<6:=by
       rcases Nat.lt_or_ge j 6 with h | h
       · exact h
       · rw [List.getElem?_eq_none (by simpa [exL] using h)] at hj;cases hj
      rw [← Go.Deep.add_add,hat j hj6,e,hj]
     obtain⟨f,hfX⟩:=choose_lt (α:=Ex) hone;have hget:∀ i,i<len→((List.range len).map f)[i]?.getD default=f i:=fun i hi=>by simp [List.getElem?_map,List.getElem?_range hi]
     refine⟨.mk k n s op ss ((List.range len).map f),A,ca,some a,cap,by simp [exL,Ex.k,Ex.n,Ex.s,Ex.op,Ex.arms,Ex.subs],?_,?_,by simp [Ex.subs];omega,?_⟩
     · rw [rdX_eq];refine⟨hr,rfl,by simp [Ex.subs];unfold maxLen at hcm;omega,fun hn=>?_⟩;simp only [Ex.subs,List.length_map,List.length_range] at hn;obtain⟨b,off,spot⟩:=a;obtain⟨⟨A0,ca0,B0,cb0,h0,_⟩,_⟩:=hfX 0 hn;have h00:=h0 0 _ rfl;have hspot:spot=none:=by simpa [Addr.add] using World.cell?_spot h00
       subst hspot;have hadd:∀ i,(⟨b,off,none⟩:Addr).add i=⟨b,off+i,none⟩:=fun i=>by unfold Addr.add;split <;> simp_all
       refine⟨b,off,rfl,World.block_lt_of_cell? w _ ((hadd 0) ▸ h00),rdXs_of _ fun i hi=>?_⟩;simp only [Ex.subs,List.length_map,List.length_range] at hi;simp only [Ex.subs];rw [hget i hi];obtain⟨⟨A',ca',B',cb',h1,h2,_⟩,_⟩:=hfX i hi;refine⟨A',ca',B',cb',fun j v hv=>?_,h2⟩;have:=h1 j v hv;rw [hadd] at this;rw [Nat.add_assoc];exact this
     · intro p hp;simp only [partsX,List.mem_cons] at hp;rcases hp with rfl | hp
       · exact⟨w2,hz,w0,w1,w3⟩
       · obtain⟨i,hi,hp⟩:=partss_mem hp;simp only [List.length_map,List.length_range] at hi;rw [hget i hi] at hp;exact(hfX i hi).2 p hp
     · rw [capX_eq];intro b off e;obtain rfl:a=⟨b,off,none⟩:=Option.some.inj e;refine capXs_of _ fun i hi A1 ca1 B1 cb1 hg=>?_;simp only [Ex.subs,List.length_map,List.length_range] at hi;simp only [Ex.subs] at hg ⊢;rw [hget i hi] at hg ⊢;obtain⟨⟨A',ca',B',cb',h1,h2,h3,h4⟩,_⟩:=hfX i hi;have hadd:∀ i,(⟨b,off,none⟩:Addr).add i=⟨b,off+i,none⟩:=fun i=>by unfold Addr.add;split <;> simp_all
       have hg':w.rangeAt b (off+i*6) (exL (f i) A' ca' B' cb'):=fun j v hv=>by
        have:=h1 j v hv;rw [hadd] at this;rw [Nat.add_assoc];exact this
       obtain⟨e1,e2,e3⟩:=exL_oneC hg hg';subst e1 e2 e3;exact⟨fun _=>h3,h4⟩
end
end
section
open Go.RowKit
def signs:List ByteArray:=[⟨#[]⟩,⟨#[45]⟩,⟨#[110,111,116]⟩,⟨#[43]⟩,⟨#[45]⟩,⟨#[42]⟩,⟨#[47]⟩,⟨#[109,111,100]⟩,⟨#[97,110,100]⟩,⟨#[111,114]⟩,⟨#[120,111,114]⟩,⟨#[61]⟩,⟨#[60,62]⟩,⟨#[60]⟩,⟨#[60,61]⟩,⟨#[62]⟩,⟨#[62,61]⟩]
def signS(op:Int):ByteArray:=if 1≤op∧op≤16 then signs[op.toNat]?.getD ⟨#[]⟩ else⟨#[]⟩
theorem sign_no{op:Int}(h:op<1∨16<op):signS op=⟨#[]⟩:=by
 unfold signS;rw [if_neg (by omega)]
theorem sg_no{op:Int}(h:op<1∨16<op) (k:Int) (hk:1≤k∧k≤16):(op==k)=false:=by
 rw [beq_eq_false_iff_ne];omega
theorem arSign(op:Int) (w:World):
 Calls Tryz.prog 121 #[.int .i64 op] w fun r w'=>r=.returned (.string (signS op))∧w=w':=by
 obtain h | rfl | rfl | rfl | rfl | rfl | rfl | rfl | rfl | rfl | rfl | rfl | rfl | rfl | rfl | rfl | rfl:(op<1∨16<op)∨op=1∨op=2∨op=3∨op=4∨op=5∨op=6∨op=7∨op=8∨op=9∨op=10∨op=11∨op=12∨op=13∨op=14∨op=15∨op=16:=by omega
 · rw [sign_no h];have b1:=sg_no h 1 (by omega);have b2:=sg_no h 2 (by omega);have b3:=sg_no h 3 (by omega);have b4:=sg_no h 4 (by omega);have b5:=sg_no h 5 (by omega);have b6:=sg_no h 6 (by omega);have b7:=sg_no h 7 (by omega);have b8:=sg_no h 8 (by omega);have b9:=sg_no h 9 (by omega);have b10:=sg_no h 10 (by omega);have b11:=sg_no h 11 (by omega);have b12:=sg_no h 12 (by omega);have b13:=sg_no h 13 (by omega);have b14:=sg_no h 14 (by omega);have b15:=sg_no h 15 (by omega);have b16:=sg_no h 16 (by omega);clear h
   go_enter Tryz.func121,Tryz.ntmps121
   go_wp2_with fail
   go_ret
   exact⟨rfl,rfl⟩
 all_goals
  go_enter Tryz.func121,Tryz.ntmps121
  go_wp2_with fail
  go_ret
  exact⟨rfl,rfl⟩
theorem refSign(op:Int) (w:World):
 Calls Tryz.prog 92 #[.int .i64 op] w fun r w'=>r=.returned (.string (signS op))∧Below w.heap.size w w':=by
 obtain h | rfl | rfl | rfl | rfl | rfl | rfl | rfl | rfl | rfl | rfl | rfl | rfl | rfl | rfl | rfl | rfl:(op<1∨16<op)∨op=1∨op=2∨op=3∨op=4∨op=5∨op=6∨op=7∨op=8∨op=9∨op=10∨op=11∨op=12∨op=13∨op=14∨op=15∨op=16:=by omega
 · rw [sign_no h];rcases h with h | h
   all_goals
    go_enter Tryz.func92,Tryz.ntmps92
    go_wp2_with fail
    go_ret
    exact⟨rfl,(Below.refl _ _).alloc (Nat.le_refl _) _⟩
 all_goals
  go_enter Tryz.func92,Tryz.ntmps92
  go_wp2_with fail
  go_ret
  exact⟨rfl,(Below.refl _ _).alloc (Nat.le_refl _) _⟩
end
section
open Go.Shelf
def lays156_ren:Go.Shelf.Ren:=⟨fun | 156=>48 | 165=>84 | 166=>82 | 169=>23 | 240=>110 | 241=>111 | 276=>137 | 277=>138 | n=>n,fun | 31=>44 | 9=>9 | 3=>3 | 4=>4 | 0=>0 | 20=>20 | 72=>56 | 76=>107 | 70=>53 | 37=>54 | 75=>106 | 127=>86 | 164=>148 | 5=>5 | 80=>63 | n=>n,fun | n=>n⟩
theorem lays156:Go.Proofs.Lays.n156 Tryz.prog lays156_ren:={
 mixed:=by kernel_rfl
 f156:=Tryz.func48.trans (congrArg some (by kernel_rfl))
 f165:=Tryz.func84.trans (congrArg some (by kernel_rfl))
 f166:=Tryz.func82.trans (congrArg some (by kernel_rfl))
 f169:=Tryz.func23.trans (congrArg some (by kernel_rfl))
 f240:=Tryz.func110.trans (congrArg some (by kernel_rfl))
 f241:=Tryz.func111.trans (congrArg some (by kernel_rfl))
 f276:=Tryz.func137.trans (congrArg some (by kernel_rfl))
 f277:=Tryz.func138.trans (congrArg some (by kernel_rfl))
 t0:=Tryz.underlying0
 a0:=Tryz.isAgg0
 z0:=Tryz.sizeOf0
 v0:=Tryz.zeroValue0
 t3:=Tryz.underlying3
 a3:=Tryz.isAgg3
 z3:=Tryz.sizeOf3
 v3:=Tryz.zeroValue3
 t4:=Tryz.underlying4
 a4:=Tryz.isAgg4
 z4:=Tryz.sizeOf4
 v4:=Tryz.zeroValue4
 t9:=Tryz.underlying9
 a9:=Tryz.isAgg9
 z9:=Tryz.sizeOf9
 v9:=Tryz.zeroValue9
 t20:=Tryz.underlying20
 a20:=Tryz.isAgg20
 z20:=Tryz.sizeOf20
 v20:=Tryz.zeroValue20
 t31:=Tryz.underlying44
 a31:=Tryz.isAgg44
 z31:=Tryz.sizeOf44
 v31:=Tryz.zeroValue44
 t37:=Tryz.underlying54
 a37:=Tryz.isAgg54
 z37:=Tryz.sizeOf54
 v37:=Tryz.zeroValue54
 t70:=Tryz.underlying53
 a70:=Tryz.isAgg53
 z70:=Tryz.sizeOf53
 v70:=Tryz.zeroValue53
 t72:=Tryz.underlying56
 a72:=Tryz.isAgg56
 z72:=Tryz.sizeOf56
 v72:=Tryz.zeroValue56
 t75:=Tryz.underlying106
 a75:=Tryz.isAgg106
 z75:=Tryz.sizeOf106
 v75:=Tryz.zeroValue106
 t76:=Tryz.underlying107
 a76:=Tryz.isAgg107
 z76:=Tryz.sizeOf107
 v76:=Tryz.zeroValue107
 t127:=Tryz.underlying86
 a127:=Tryz.isAgg86
 z127:=Tryz.sizeOf86
 v127:=Tryz.zeroValue86
 t164:=Tryz.underlying148
 a164:=Tryz.isAgg148
 z164:=Tryz.sizeOf148
 v164:=Tryz.zeroValue148 }
theorem Builder_Extra_156:Builder.Extra Tryz.prog lays156_ren:={
 sizeBuilder:=by kernel_rfl
 liesBuilder:=by kernel_rfl
 t5:=Tryz.underlying5
 a5:=Tryz.isAgg5
 z5:=Tryz.sizeOf5
 v5:=Tryz.zeroValue5
 infoByte:=by kernel_rfl
 cellsByte:=by kernel_rfl
 sizeByte:=by kernel_rfl
 neB5:=by decide }
def lays121_ren:Go.Shelf.Ren:=⟨fun | 121=>117 | 214=>143 | n=>n,fun | 4=>4 | 9=>9 | n=>n,fun | n=>n⟩
theorem lays121:Go.Proofs.Lays.n121 Tryz.prog lays121_ren:={
 mixed:=by kernel_rfl
 f121:=Tryz.func117.trans (congrArg some (by kernel_rfl))
 f214:=Tryz.func143.trans (congrArg some (by kernel_rfl))
 t4:=Tryz.underlying4
 a4:=Tryz.isAgg4
 z4:=Tryz.sizeOf4
 v4:=Tryz.zeroValue4
 t9:=Tryz.underlying9
 a9:=Tryz.isAgg9
 z9:=Tryz.sizeOf9
 v9:=Tryz.zeroValue9 }
def laysM173_ren:Go.Shelf.Ren:=⟨fun | 173=>116 | 246=>124 | 283=>145 | 284=>146 | 285=>147 | 286=>148 | 129=>160 | 317=>159 | 318=>161 | 319=>162 | 320=>163 | 337=>169 | 338=>170 | n=>n,fun | 2=>2 | 3=>3 | 9=>9 | 4=>4 | 171=>155 | 0=>0 | 53=>156 | 37=>54 | 5=>5 | 173=>159 | 212=>167 | 51=>168 | 20=>20 | 213=>169 | 46=>171 | 232=>176 | 233=>177 | n=>n,fun | 17=>1 | 18=>2 | 19=>3 | n=>n⟩
theorem laysM173:Go.Proofs.LaysM.n173 Tryz.prog laysM173_ren:={
 mixed:=by kernel_rfl
 f129:=Tryz.func160.trans (congrArg some (by kernel_rfl))
 f173:=Tryz.func116.trans (congrArg some (by kernel_rfl))
 f246:=Tryz.func124.trans (congrArg some (by kernel_rfl))
 f283:=Tryz.func145.trans (congrArg some (by kernel_rfl))
 f284:=Tryz.func146.trans (congrArg some (by kernel_rfl))
 f285:=Tryz.func147.trans (congrArg some (by kernel_rfl))
 f286:=Tryz.func148.trans (congrArg some (by kernel_rfl))
 f317:=Tryz.func159.trans (congrArg some (by kernel_rfl))
 f318:=Tryz.func161.trans (congrArg some (by kernel_rfl))
 f319:=Tryz.func162.trans (congrArg some (by kernel_rfl))
 f320:=Tryz.func163.trans (congrArg some (by kernel_rfl))
 f337:=Tryz.func169.trans (congrArg some (by kernel_rfl))
 f338:=Tryz.func170.trans (congrArg some (by kernel_rfl))
 t0:=Tryz.underlying0
 a0:=Tryz.isAgg0
 z0:=Tryz.sizeOf0
 v0:=Tryz.zeroValue0
 t2:=Tryz.underlying2
 a2:=Tryz.isAgg2
 z2:=Tryz.sizeOf2
 v2:=Tryz.zeroValue2
 t3:=Tryz.underlying3
 a3:=Tryz.isAgg3
 z3:=Tryz.sizeOf3
 v3:=Tryz.zeroValue3
 t4:=Tryz.underlying4
 a4:=Tryz.isAgg4
 z4:=Tryz.sizeOf4
 v4:=Tryz.zeroValue4
 t5:=Tryz.underlying5
 a5:=Tryz.isAgg5
 z5:=Tryz.sizeOf5
 v5:=Tryz.zeroValue5
 t9:=Tryz.underlying9
 a9:=Tryz.isAgg9
 z9:=Tryz.sizeOf9
 v9:=Tryz.zeroValue9
 t20:=Tryz.underlying20
 a20:=Tryz.isAgg20
 z20:=Tryz.sizeOf20
 v20:=Tryz.zeroValue20
 t37:=Tryz.underlying54
 a37:=Tryz.isAgg54
 z37:=Tryz.sizeOf54
 v37:=Tryz.zeroValue54
 t46:=Tryz.underlying171
 a46:=Tryz.isAgg171
 z46:=Tryz.sizeOf171
 v46:=Tryz.zeroValue171
 t51:=Tryz.underlying168
 a51:=Tryz.isAgg168
 z51:=Tryz.sizeOf168
 v51:=Tryz.zeroValue168
 t53:=Tryz.underlying156
 a53:=Tryz.isAgg156
 z53:=Tryz.sizeOf156
 v53:=Tryz.zeroValue156
 t171:=Tryz.underlying155
 a171:=Tryz.isAgg155
 z171:=Tryz.sizeOf155
 v171:=Tryz.zeroValue155
 t173:=Tryz.underlying159
 a173:=Tryz.isAgg159
 z173:=Tryz.sizeOf159
 v173:=Tryz.zeroValue159
 t212:=Tryz.underlying167
 a212:=Tryz.isAgg167
 z212:=Tryz.sizeOf167
 v212:=Tryz.zeroValue167
 t213:=Tryz.underlying169
 a213:=Tryz.isAgg169
 z213:=Tryz.sizeOf169
 t232:=Tryz.underlying176
 a232:=Tryz.isAgg176
 z232:=Tryz.sizeOf176
 v232:=Tryz.zeroValue176
 t233:=Tryz.underlying177
 a233:=Tryz.isAgg177
 z233:=Tryz.sizeOf177
 v233:=Tryz.zeroValue177
 g17:=by kernel_rfl
 g18:=by kernel_rfl
 g19:=by kernel_rfl
 i0:=by kernel_rfl
 i2:=by kernel_rfl
 i3:=by kernel_rfl
 i4:=by kernel_rfl
 i5:=by kernel_rfl
 i9:=by kernel_rfl
 i20:=by kernel_rfl
 i37:=by kernel_rfl
 i46:=by kernel_rfl
 i51:=by kernel_rfl
 i53:=by kernel_rfl
 i171:=by kernel_rfl
 i173:=by kernel_rfl
 i212:=by kernel_rfl
 i232:=by kernel_rfl
 i233:=by kernel_rfl
 m17:=by kernel_rfl
 m18:=by kernel_rfl
 m19:=by kernel_rfl }
open Go.RowKit
def powN:String:=(Rows.printTextsRow.named.drop 1).headD ""
def Tab(w:World):Prop:=Lib.TabIs Tryz.prog w powN .u64 Lib.pow10Tab
theorem pow_named:Tryz.prog.globalNamed powN=some 1:=by kernel_rfl
theorem Tab.below{w w':World}(h:Tab w) (hb:Below w.heap.size w w'):Tab w':=Joins.tab_stays pow_named h hb (Nat.le_refl _)
theorem cells_of_texts{w:World}{b off:Nat}{ss:List ByteArray}(h:∀ i,i<ss.length→w.cell? ⟨b,off+i,none⟩=some (.string (ss[i]?.getD ByteArray.empty))):
 ∀ (j:Nat) x,ss[j]?=some x→w.cell? ⟨b,off+j,none⟩=some (.string x):=fun j x hx=>by
 have hj:j<ss.length:=by
  rcases Nat.lt_or_ge j ss.length with h1 | h1
  · exact h1
  · rw [List.getElem?_eq_none h1] at hx;cases hx
 rw [h j hj,hx];rfl
theorem libJoin(A:Option Addr) (n c:Nat) (ss:List ByteArray) (sep:ByteArray) (w:World) (hR:RdT w A n ss) (hnc:n≤c) (hn:n≤140737488355328)
 (hlen:(Lib.join (ss.map (·.data.toList)) sep.data.toList).length≤140737488355328):
 Calls Tryz.prog 48 #[.slice A n c,.string sep] w fun e w'=>e=.returned (.string ⟨(Lib.join (ss.map (·.data.toList)) sep.data.toList).toArray⟩)∧Below w.heap.size w w':=by
 have hl:=hR.len;subst hl;rcases Nat.eq_zero_or_pos ss.length with h0 | h0
 · obtain rfl:ss=[]:=List.eq_nil_of_length_eq_zero h0;exact(Any.strings_Join_none lays156 Builder_Extra_156 A c sep w).mono fun e w' ⟨he,hw⟩=>⟨he,hw ▸ Below.refl _ _⟩
 · obtain⟨b,off,rfl,hb,hc⟩:=hR.2.2 h0;exact Any.strings_Join lays156 Builder_Extra_156 b off c ss sep w (cells_of_texts hc) hb hn hnc hlen
theorem libBool(b:Bool) (w:World):Calls Tryz.prog 117 #[.bool b] w fun e w'=>e=.returned (.string ⟨(Lib.formatBool b).toArray⟩)∧w=w' :=
 (Any.strconv_FormatBool lays121 b w).mono fun e w' ⟨he,hw⟩=>⟨he,hw.symm⟩
theorem libInt(z:Int) (h0:-9223372036854775808≤z) (h1:z≤9223372036854775807) (w:World) (ht:Tab w):
 Calls Tryz.prog 116 #[.int .i64 z,.int .i64 10] w fun e w'=>e=.returned (.string ⟨(Lib.itoa z).toArray⟩)∧Below w.heap.size w w' :=
 (Any.strconv_FormatInt_10 laysM173 z h0 h1 w ht).mono fun e w' ⟨he,k,os,hw⟩=>⟨he,hw ▸ Lib.below_grow _ _ (Nat.le_refl _) k os⟩
end
section
open Go.RowKit Go.ChangeShapes Go.WideShapes Go.Deep
theorem tab_of_laid{W:World}(h:laidMetH Tryz.prog Rows.printTextsRow.laid W):Tab W:=by
 have h1:=h.filter (fun x=>x.1==powN);have e:Rows.printTextsRow.laid.filter (fun x=>x.1==powN)=[(powN,Lib.tabData .u64 Lib.pow10Tab)]:=by kernel_rfl
 rw [e] at h1;have h2:laidMet Tryz.prog [(powN,Lib.tabData .u64 Lib.pow10Tab)] W:=(laidMetH_iff.1 h1).1;exact Lib.tabIs_of_head (t:=167) (e:=156) (n:=20) pow_named (by kernel_rfl) Tryz.underlying167 Tryz.underlying156 (by kernel_rfl) (by kernel_rfl) h2
end
end Go.Proofs.YtpedcgpcchbhpaaGreatDoor
