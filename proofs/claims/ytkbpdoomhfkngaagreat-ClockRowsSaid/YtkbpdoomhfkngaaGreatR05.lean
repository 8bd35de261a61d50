/- Parts of the proof: Stp, ExS, EyB, EyC, ExZ. Conditions: each theorem's own. -/
import Derived.Deep.Slices
import Derived.Deep.Fields
import Derived.ChangeSame
import Derived.SliceStrings
import Derived.Test.YtkbpdoomhfkngaaGreatR01
namespace Go.Proofs.YtkbpdoomhfkngaaGreat
set_option linter.unusedVariables false
set_option linter.unusedSimpArgs false
set_option maxRecDepth 100000
set_option maxHeartbeats 40000000
section
open Go.RowKit
theorem own_slice{w:World}{base:Nat}{e:TypeId}{size:Nat}{v:Value}{n:Nat}{xs:List Value}(h:w.ownsRow base e size v n xs):∃ A c,v=.slice A n c:=by
 rcases h.2 with⟨rfl,rfl⟩|⟨g,cap,cur,rfl,_⟩
 · exact⟨none,0,rfl⟩
 · exact⟨_,_,rfl⟩
theorem step_append_any{P:Program}{w:World}{ops:Array Oper}{o:Oper}{a:Act}{K:Act→World→Prop}{Q:Exit→Act→World→Prop}{E:Prop}(hgd:o.guard=none) (s x:Operand) (t:TypeId)
 (ho:o.op=.call { callee:=.builtin .append,args:=#[s,x],argTypes:=#[t,t] })
 (base:Nat) (e:TypeId) (i:TypeInfo) (z:Value) (size bytes:Nat) (ht:P.underlying t=some (.slice e)) (hi:P.info? e=some i) (hz:i.zero=some z)
 (hsize:i.size=size) (hby:i.bytes=bytes) (hzs:z.cells.size=size) (hsz:0<size)
 (v:Value) (n:Nat) (xs:List Value) (hs:a.eval s=v) (hown:w.ownsRow base e size v n xs)
 (A:Option Addr) (m c:Nat) (news:List Value) (hx:a.eval x=.slice A m c) (hl:news.length=m*size) (hA:A=none→m=0) (hnews:∀ ad,A=some ad→∀ j u,news[j]?=some u→w.cell? (ad.add j)=some u) (h1:∀ u∈news,u.oneCell'=true)
 (h63:n+m≤maxLen) (hbytes:(n+m)*bytes≤140737488355328) (hbase:base≤w.heap.size)
 (h:∀ A' c' w',w'.ownsRow base e size (.slice A' (n+m) c') (n+m) (xs++news)→w.grownBy w' v.ownBlock→((Value.slice A' (n+m) c').ownBlock=v.ownBlock∨(Value.slice A' (n+m) c').ownBlock=some w.heap.size)→K (a.put o.dst (.slice A' (n+m) c')) w'):
 if Region.wanted o (yielded ops a.tmps)=true then Oper.wp P o a w K Q else E:=by
 have hw:Region.wanted o (yielded ops a.tmps)=true:=by simp [Region.wanted,hgd]
 rw [if_pos hw]
 cases A with
 | none=>
  obtain rfl:=hA rfl;obtain rfl:news=[]:=List.eq_nil_of_length_eq_zero (by simpa using hl);have hr:=run_append_nil (P:=P) (w:=w) base t o.type e i size ht hi v n xs hown c;obtain⟨A',c',rfl⟩:=own_slice hown;unfold Oper.wp execOp;simp only [ho,resolve,invoke,builtin,Sem.run_bind,Sem.run_pure,Result.andThen_ok,List.map_toArray,List.map_cons,List.map_nil,hs,hx,hr];exact h A' c' w (by simpa using hown) (World.grownBy.refl w _) (.inl rfl)
 | some ad=>
  obtain⟨v',w',hr,h2,h3,_,h5⟩:=run_append_own_at (P:=P) w base t o.type e i z size bytes ht hi hz hsize hby hzs hsz v n xs hown ad m c news hl (hnews ad rfl) h1 h63 hbytes hbase;obtain⟨A',c',rfl⟩:=own_slice h2;unfold Oper.wp execOp;simp only [ho,resolve,invoke,builtin,Sem.run_bind,Sem.run_pure,Result.andThen_ok,List.map_toArray,List.map_cons,List.map_nil,hs,hx,hr];exact h A' c' w' h2 h3 h5
theorem add_addr(g o k:Nat):(⟨g,o,none⟩:Addr).add k=⟨g,o+k,none⟩:=by unfold Addr.add;split <;> simp_all
end
section
open Go.RowKit Go.Sort
theorem box2_facts(w:World) (x y:Ex) (A A':Option Addr) (ca ca':Nat) (B B':Option Addr) (cb cb':Nat) (w1:World) (h:(w.alloc (.cells (exA x A ca B cb) 52)).alloc (.cells (exA y A' ca' B' cb') 52)=w1) (hr:rdX w x A B) (hr':rdX w y A' B'):
 Below w.heap.size w w1∧w.heap.size+1<w1.heap.size∧rdX w1 x A B∧rdX w1 y A' B'∧(∀ w',Below w1.heap.size w1 w'→∀ j,w'.cell? ⟨w.heap.size,j,none⟩=(exA x A ca B cb)[j]?)∧∀ w',Below w1.heap.size w1 w'→∀ j,w'.cell? ⟨w.heap.size+1,j,none⟩=(exA y A' ca' B' cb')[j]?:=by
 subst h;refine⟨((Below.refl _ _).alloc (Nat.le_refl _) _).alloc (by simp) _,by simp,(hr.alloc _).alloc _,(hr'.alloc _).alloc _,fun w' hb j=>?_,fun w' hb j=>?_⟩
 · rw [hb.cell (p:=⟨w.heap.size,j,none⟩) (by simp;omega),World.cell?_alloc_lt _ _ _ (by simp),World.cell?_alloc_new]
 · rw [hb.cell (p:=⟨w.heap.size+1,j,none⟩) (by simp)];have:=World.cell?_alloc_new (w.alloc (.cells (exA x A ca B cb) 52)) (exA y A' ca' B' cb') 52 j;rwa [World.size_alloc] at this
end
section
open Go.RowKit Go.Sort
theorem slEqual(A B:Option Addr) (n m c d:Nat) (ss tt:List ByteArray) (w:World) (hs:RdT w A n ss) (ht:RdT w B m tt):
 Calls Tryz.prog 174 #[.slice A n c,.slice B m d] w fun r w'=>r=.returned (.bool (sameT ss tt))∧Below w.heap.size w w':=by
 have h1:=hs.len;have h2:=ht.len;have h3:=hs.max;have h4:=ht.max
 by_cases hnm:n=m
 · subst hnm
   go_enter Tryz.func174,Tryz.ntmps174
   go_wp2_with fail
   go_loopw [13] (fun i wr=>∃ k:Nat,k≤n∧i=.int .i64 k∧sameTo ss tt k∧∃ p,wr=w.drewN p) (fun i _=>n-(intOf i).toNat)
   case atStart=>exact⟨0,Nat.zero_le _,rfl,fun j hj=>absurd hj (by omega),0,rfl⟩
   case round=>
    obtain⟨k,hk,rfl,hto,p,rfl⟩:=hrel;have HT:=Hd hto;clear hto
    by_cases hlt:k<n
    · obtain⟨b,off,rfl,hb,hc⟩:=hs.at_ hlt;obtain⟨b',off',rfl,hb',hc'⟩:=ht.at_ hlt;have e1:=hc k hlt;have e2:=hc' k hlt;have HN:=Hd fun h=>sameTo_succ HT.out h;have HF:=Hd fun h=>sameT_at (a:=ss) (b:=tt) (k:=k) (by omega) (by omega) h;clear hc hc';generalize ss[k]?.getD ByteArray.empty=x at e1 HN HF;generalize tt[k]?.getD ByteArray.empty=y at e2 HN HF
      by_cases he:(x.toList==y.toList)=true
      · have HN:=Hd (HN.out he);have hne:(x.toList != y.toList)=false:=by simp only [bne,he];rfl
        go_wp2_with fail
        go_quiet (fail)
        go_wp2_with fail
        go_roundw
        case rel=>exact⟨k+1,by omega,by go_num,HN.out,_,rfl⟩
        case measure=>simp [intOf];omega
      · have he:(x.toList==y.toList)=false:=by simpa using he
        have HF:=Hd (HF.out he);have hne:(x.toList != y.toList)=true:=by simp only [bne,he];rfl
        go_wp2_with fail
        go_quiet (fail)
        go_wp2_with fail
        go_ret
        exact⟨ret_bool HF.out.symm,below_drewN (below_drewN (Below.refl _ _) _) _⟩
    · have HY:=Hd (sameT_yes (by omega) HT.out (by omega))
      go_wp2_with fail
      go_ret
      exact⟨ret_bool HY.out.symm,below_drewN (Below.refl _ _) _⟩
 · have hF:=Hd (sameT_len (a:=ss) (b:=tt) (by omega));have hne:((n:Int) != (m:Int))=true:=by rw [bne_iff_ne];omega
   go_enter Tryz.func174,Tryz.ntmps174
   go_wp2_with fail
   go_ret
   exact⟨ret_bool hF.out.symm,Below.refl _ _⟩
def fieldsB(x y:Ex):Bool:=(x.k==y.k) && (x.n==y.n) && (x.s.toList==y.s.toList) && (x.op==y.op) && sameT x.arms y.arms
theorem exFields(x:Ex) (A:Option Addr) (ca:Nat) (B:Option Addr) (cb:Nat) (y:Ex) (A':Option Addr) (ca':Nat) (B':Option Addr) (cb':Nat) (w:World) (hr:rdX w x A B) (hr':rdX w y A' B'):
 Calls Tryz.prog 184 #[.agg (exA x A ca B cb),.agg (exA y A' ca' B' cb')] w fun e w'=>e=.returned (.bool (fieldsB x y))∧Below w.heap.size w w':=by
 have HF:=Hd fun w1 h=>box2_facts w x y A A' ca ca' B B' cb cb' w1 h hr hr';have HNM:=Hd fun w1 (h:Below w.heap.size w w1)=>slEqual A A' x.arms.length y.arms.length ca ca' x.arms y.arms w1 (hr.below h).arms (hr'.below h).arms;have HS:=Hd (show fieldsB x y=((x.k==y.k) && (x.n==y.n) && (x.s.toList==y.s.toList) && (x.op==y.op) && sameT x.arms y.arms) from rfl);clear hr hr';unfold exA at HF ⊢;generalize fieldsB x y=res at *;generalize x.k=k1 at *;generalize y.k=k2 at *;generalize x.n=m1 at *;generalize y.n=m2 at *;generalize x.s=s1 at *;generalize y.s=s2 at *;generalize x.op=o1 at *;generalize y.op=o2 at *;generalize sameT x.arms y.arms=nb at *;generalize x.arms.length=a1 at *;generalize y.arms.length=a2 at *;generalize x.subs.length=n1 at *;generalize y.subs.length=n2 at *;generalize hk:(k1==k2)=bk at *;generalize hm:(m1==m2)=bm at *;generalize hs:(s1.toList==s2.toList)=bs at *;generalize ho:(o1==o2)=bo at *
 cases bk with
 | false=>
  have HN:=Hd (show res=false by rw [HS.out];simp)
  go_enter Tryz.func184,Tryz.ntmps184
  go_upto_region 1 with(fail)
  generalize hw1:(w.alloc _).alloc _=w1;obtain⟨hb1,hg,hr1,hr2,hcell,hcell2⟩:=HF.out w1 hw1;have HB1:=Hd hb1;have q0:=hcell w1 (Below.refl _ _) 0;have p0:=hcell2 w1 (Below.refl _ _) 0;have q1:=hcell w1 (Below.refl _ _) 1;have p1:=hcell2 w1 (Below.refl _ _) 1;have q2:=hcell w1 (Below.refl _ _) 2;have p2:=hcell2 w1 (Below.refl _ _) 2;have q3:=hcell w1 (Below.refl _ _) 3;have p3:=hcell2 w1 (Below.refl _ _) 3;have q4:=hcell w1 (Below.refl _ _) 4;have p4:=hcell2 w1 (Below.refl _ _) 4;have q5:=hcell w1 (Below.refl _ _) 5;have p5:=hcell2 w1 (Below.refl _ _) 5;clear hcell hcell2 hb1 hr1 hr2 hw1 HF
  go_wp2_with fail
  go_ret
  exact⟨ret_bool HN.out.symm,HB1.out⟩
 | true=>
  cases bm with
  | false=>
   have HN:=Hd (show res=false by rw [HS.out];simp)
   go_enter Tryz.func184,Tryz.ntmps184
   go_upto_region 1 with(fail)
   generalize hw1:(w.alloc _).alloc _=w1;obtain⟨hb1,hg,hr1,hr2,hcell,hcell2⟩:=HF.out w1 hw1;have HB1:=Hd hb1;have q0:=hcell w1 (Below.refl _ _) 0;have p0:=hcell2 w1 (Below.refl _ _) 0;have q1:=hcell w1 (Below.refl _ _) 1;have p1:=hcell2 w1 (Below.refl _ _) 1;have q2:=hcell w1 (Below.refl _ _) 2;have p2:=hcell2 w1 (Below.refl _ _) 2;have q3:=hcell w1 (Below.refl _ _) 3;have p3:=hcell2 w1 (Below.refl _ _) 3;have q4:=hcell w1 (Below.refl _ _) 4;have p4:=hcell2 w1 (Below.refl _ _) 4;have q5:=hcell w1 (Below.refl _ _) 5;have p5:=hcell2 w1 (Below.refl _ _) 5;clear hcell hcell2 hb1 hr1 hr2 hw1 HF
   go_wp2_with fail
   go_ret
   exact⟨ret_bool HN.out.symm,HB1.out⟩
  | true=>
   cases bs with
   | false=>
    have HN:=Hd (show res=false by rw [HS.out];simp)
    go_enter Tryz.func184,Tryz.ntmps184
    go_upto_region 1 with(fail)
    generalize hw1:(w.alloc _).alloc _=w1;obtain⟨hb1,hg,hr1,hr2,hcell,hcell2⟩:=HF.out w1 hw1;have HB1:=Hd hb1;have q0:=hcell w1 (Below.refl _ _) 0;have p0:=hcell2 w1 (Below.refl _ _) 0;have q1:=hcell w1 (Below.refl _ _) 1;have p1:=hcell2 w1 (Below.refl _ _) 1;have q2:=hcell w1 (Below.refl _ _) 2;have p2:=hcell2 w1 (Below.refl _ _) 2;have q3:=hcell w1 (Below.refl _ _) 3;have p3:=hcell2 w1 (Below.refl _ _) 3;have q4:=hcell w1 (Below.refl _ _) 4;have p4:=hcell2 w1 (Below.refl _ _) 4;have q5:=hcell w1 (Below.refl _ _) 5;have p5:=hcell2 w1 (Below.refl _ _) 5;clear hcell hcell2 hb1 hr1 hr2 hw1 HF
    go_wp2_with fail
    go_ret
    exact⟨ret_bool HN.out.symm,HB1.out⟩
   | true=>
    cases bo with
    | false=>
     have HN:=Hd (show res=false by rw [HS.out];simp)
     go_enter Tryz.func184,Tryz.ntmps184
     go_upto_region 1 with(fail)
     generalize hw1:(w.alloc _).alloc _=w1;obtain⟨hb1,hg,hr1,hr2,hcell,hcell2⟩:=HF.out w1 hw1;have HB1:=Hd hb1;have q0:=hcell w1 (Below.refl _ _) 0;have p0:=hcell2 w1 (Below.refl _ _) 0;have q1:=hcell w1 (Below.refl _ _) 1;have p1:=hcell2 w1 (Below.refl _ _) 1;have q2:=hcell w1 (Below.refl _ _) 2;have p2:=hcell2 w1 (Below.refl _ _) 2;have q3:=hcell w1 (Below.refl _ _) 3;have p3:=hcell2 w1 (Below.refl _ _) 3;have q4:=hcell w1 (Below.refl _ _) 4;have p4:=hcell2 w1 (Below.refl _ _) 4;have q5:=hcell w1 (Below.refl _ _) 5;have p5:=hcell2 w1 (Below.refl _ _) 5;clear hcell hcell2 hb1 hr1 hr2 hw1 HF
     go_wp2_with fail
     go_ret
     exact⟨ret_bool HN.out.symm,HB1.out⟩
    | true=>
     have HN:=Hd (show res=nb by rw [HS.out];simp)
     go_enter Tryz.func184,Tryz.ntmps184
     go_upto_region 1 with(fail)
     generalize hw1:(w.alloc _).alloc _=w1;obtain⟨hb1,hg,hr1,hr2,hcell,hcell2⟩:=HF.out w1 hw1;have HB1:=Hd hb1;have q0:=hcell w1 (Below.refl _ _) 0;have p0:=hcell2 w1 (Below.refl _ _) 0;have q1:=hcell w1 (Below.refl _ _) 1;have p1:=hcell2 w1 (Below.refl _ _) 1;have q2:=hcell w1 (Below.refl _ _) 2;have p2:=hcell2 w1 (Below.refl _ _) 2;have q3:=hcell w1 (Below.refl _ _) 3;have p3:=hcell2 w1 (Below.refl _ _) 3;have q4:=hcell w1 (Below.refl _ _) 4;have p4:=hcell2 w1 (Below.refl _ _) 4;have q5:=hcell w1 (Below.refl _ _) 5;have p5:=hcell2 w1 (Below.refl _ _) 5;have HN1:=Hd (HNM.out w1 hb1);clear hcell hcell2 hb1 hr1 hr2 hw1 HF
     go_wp2_with fail
     refine HN1.out.mono ?_;rintro r w2 ⟨rfl,hb2⟩;have HB2:=Hd (HB1.out.trans (hb2.mono HB1.out.size));clear hb2
     go_wp2_with fail
     go_ret
     exact⟨ret_bool HN.out.symm,HB2.out⟩
end
section
open Go.RowKit Go.Sort
end
section
open Go.RowKit Go.ChangeShapes Go.WideShapes Go.Deep
theorem cells_i:Tryz.prog.cellsOf 3=1:=by kernel_rfl
theorem cells_l:Tryz.prog.cellsOf 2=1:=by kernel_rfl
theorem cells_s:Tryz.prog.cellsOf 9=1:=by kernel_rfl
theorem cells_ss:Tryz.prog.cellsOf 49=1:=by kernel_rfl
theorem cells_xs:Tryz.prog.cellsOf 50=1:=by kernel_rfl
def OkP(p:Ex):Prop:=p.s.size≤maxLen∧(∀ t∈p.arms,t.size≤maxLen)∧(Lit.int .i64 p.k).wf=true∧(Lit.int .i64 p.n).wf=true∧(Lit.int .i64 p.op).wf=true
def OkX(x:Ex):Prop:=∀ p∈partsX x,OkP p
theorem partss_mem{l:List Ex}{p:Ex}(h:p∈partssX l):∃ i,i<l.length∧p∈partsX (l[i]?.getD default):=by
 induction l with
 | nil=>simp [partssX] at h
 | cons x l ih=>
  simp only [partssX,List.mem_append] at h;rcases h with h | h
  · exact⟨0,by simp,by simpa using h⟩
  · obtain⟨i,hi,hp⟩:=ih h;exact⟨i+1,by simpa using hi,by simpa using hp⟩
theorem mem_partssZ{l:List Ex}{p:Ex}{i:Nat}(hi:i<l.length) (h:p∈partsX (l[i]?.getD default)):p∈partssX l:=by
 induction l generalizing i with
 | nil=>simp at hi
 | cons x l ih=>
  simp only [partssX,List.mem_append]
  cases i with
  | zero=>left;simpa using h
  | succ i=>right;exact ih (by simpa using hi) (by simpa using h)
theorem OkX.self{x:Ex}(h:OkX x):OkP x:=h x (by rw [partsX_eq];exact List.mem_cons_self)
theorem OkX.sub{x:Ex}(h:OkX x){i:Nat}(hi:i<x.subs.length):OkX (subX x i):=fun p hp=>h p (by
 rw [partsX_eq];exact List.mem_cons_of_mem _ (mem_partssZ hi hp))
section
variable {H:Type}{enc:TypeId × Value→H}{w:World}{base:Nat}{spare:Nat→Bool}{held:Bool}
theorem strs_openZ{fuel:Nat}{v:Value}{x:DataW H × List MemPlace}(h:DataW.trod enc Tryz.prog w base spare held fuel 49 [v]=some x):∃ A n c ss,v=.slice A n c∧RdT w A n ss∧∀ s∈ss,s.size≤maxLen:=by
 rcases Go.ChangeShapes.open_strings Tryz.underlying49 Tryz.underlying9 (by kernel_rfl) h with⟨hcs,_⟩|⟨x,l,c,ss,hcs,_,hl,hm,hss,_,hcell,hz⟩
 · simp at hcs
   subst hcs;exact⟨none,0,0,[],rfl,RdT.nil_ _,fun s hs=>by cases hs⟩
 · simp at hcs
   subst hcs;have hle:l≤ss.length:=by rw [hss];split <;> omega
   exact⟨some x,l,c,ss.take l,rfl,rdT_arg hle (by unfold maxLen at hm;omega) hcell,fun s hs=>hz s (List.mem_of_mem_take hs)⟩
theorem ex_cells:∀ (fuel:Nat){cs:List Value}{x:DataW H × List MemPlace},DataW.trod enc Tryz.prog w base spare held fuel 52 cs=some x→cs.length=6 →
 ∃ (X:Ex) (A:Option Addr) (ca:Nat) (B:Option Addr) (cb:Nat),cs=exL X A ca B cb∧rdX w X A B∧OkX X:=by
 intro fuel
 induction fuel using Nat.strongRecOn with
 | _ fuel ih=>
 intro cs x h hl;obtain⟨ys,m,hm,_,_,hy,hf⟩:=DataW.trod_struct Tryz.underlying52 h
 match cs,hl with
 | [v0,v1,v2,v3,v4,v5],_=>
  match ys,hy with
  | [y0,y1,y2,y3,y4,y5],_=>
   have t0:=hf 0 _ rfl;have t1:=hf 1 _ rfl;have t2:=hf 2 _ rfl;have t3:=hf 3 _ rfl;have t4:=hf 4 _ rfl;have t5:=hf 5 _ rfl
   simp [cells_i,cells_l,cells_s,cells_ss,cells_xs] at t0 t1 t2 t3 t4 t5
   obtain⟨k,e0,_,w0⟩:=DataW.trod_int Tryz.underlying3 t0;obtain⟨n,e1,_,w1⟩:=DataW.trod_int Tryz.underlying2 t1;obtain⟨s,e2,_,w2⟩:=DataW.trod_string Tryz.underlying9 t2;obtain⟨op,e3,_,w3⟩:=DataW.trod_int Tryz.underlying3 t3;injection e0 with e0;injection e1 with e1;injection e2 with e2;injection e3 with e3;subst e0 e1 e2 e3;obtain⟨A,na,ca,ss,rfl,hr,hz⟩:=strs_openZ t4;have hna:=hr.len;subst hna;rcases DataW.trod_slice Tryz.underlying50 t5 with⟨hcs,_⟩|⟨a,len,cap,elems,rest,nn,hnn,hcs,_,_,hlc,hcm,hel,hi,_,_⟩
   · simp at hcs
     subst hcs;refine⟨.mk k n s op ss [],A,ca,none,0,rfl,?_,?_⟩
     · rw [rdX_eq];exact⟨hr,RdX.nil_ _⟩
     · intro p hp;simp only [partsX,partssX,List.mem_singleton] at hp;subst hp;exact⟨w2,hz,w0,w1,w3⟩
   · simp at hcs
     subst hcs
     have hone:∀ i,i<len→∃ X:Ex,(∃ A' ca' B' cb',(∀ j v,(exL X A' ca' B' cb')[j]?=some v→w.cell? (a.add (i*6+j))=some v)∧rdX w X A' B')∧OkX X:=by
      intro i him;have h1:=hi i him;rw [List.getElem?_eq_getElem (by omega),cells_ex] at h1;obtain⟨cs',hc,ht⟩:=Option.bind_eq_some_iff.1 h1;obtain⟨_,hcl,hat⟩:=World.cells?_some hc;obtain⟨X,A',ca',B',cb',e,hrX,hok⟩:=ih nn (by omega) ht hcl;refine⟨X,⟨A',ca',B',cb',fun j v hj=>?_,hrX⟩,hok⟩
      have hj6:j<6:=by
       rcases Nat.lt_or_ge j 6 with h | h
       · exact h
       · rw [List.getElem?_eq_none (by simpa [exL] using h)] at hj;cases hj
      rw [← Go.Deep.add_add,hat j hj6,e,hj]
     obtain⟨f,hfX⟩:=choose_lt (α:=Ex) hone;have hget:∀ i,i<len→((List.range len).map f)[i]?.getD default=f i:=fun i hi=>by simp [List.getElem?_map,List.getElem?_range hi]
     refine⟨.mk k n s op ss ((List.range len).map f),A,ca,some a,cap,by simp [exL,Ex.k,Ex.n,Ex.s,Ex.op,Ex.arms,Ex.subs],?_,?_⟩
     · rw [rdX_eq];refine⟨hr,rfl,by simp [Ex.subs];unfold maxLen at hcm;omega,fun hn=>?_⟩;simp only [Ex.subs,List.length_map,List.length_range] at hn;obtain⟨b,off,spot⟩:=a;obtain⟨⟨A0,ca0,B0,cb0,h0,_⟩,_⟩:=hfX 0 hn;have h00:=h0 0 _ rfl;have hspot:spot=none:=by simpa [Addr.add] using World.cell?_spot h00
       subst hspot;have hadd:∀ i,(⟨b,off,none⟩:Addr).add i=⟨b,off+i,none⟩:=fun i=>by unfold Addr.add;split <;> simp_all
       refine⟨b,off,rfl,World.block_lt_of_cell? w _ ((hadd 0) ▸ h00),rdXs_of _ fun i hi=>?_⟩;simp only [Ex.subs,List.length_map,List.length_range] at hi;simp only [Ex.subs];rw [hget i hi];obtain⟨⟨A',ca',B',cb',h1,h2⟩,_⟩:=hfX i hi;refine⟨A',ca',B',cb',fun j v hv=>?_,h2⟩;have:=h1 j v hv;rw [hadd] at this;rw [Nat.add_assoc];exact this
     · intro p hp;simp only [partsX,List.mem_cons] at hp;rcases hp with rfl | hp
       · exact⟨w2,hz,w0,w1,w3⟩
       · obtain⟨i,hi,hp⟩:=partss_mem hp;simp only [List.length_map,List.length_range] at hi;rw [hget i hi] at hp;exact(hfX i hi).2 p hp
end
end
end Go.Proofs.YtkbpdoomhfkngaaGreat
