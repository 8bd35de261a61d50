/- Parts: PrA, PrB, PrC, PrD, PsK. Conditions: each theorem's own. -/
import Derived.Test.YtokiaaapgkdpmaaGreatDoorU14
import Derived.Test.YtokiaaapgkdpmaaGreatDoorU19
import Derived.Test.YtokiaaapgkdpmaaGreatDoorU26
namespace Go.Proofs.YtokiaaapgkdpmaaGreatDoor
set_option linter.unusedVariables false
set_option linter.unusedSimpArgs false
set_option maxRecDepth 100000
set_option maxHeartbeats 40000000
section
open Go.RowKit Go.Sort
def TkOK(t:Tk):Prop:=(t.k=5→t.s∈marksL)∧(t.k=1→t.s∉marksL)
theorem marks_noword:∀ m∈marksL,wordB m=false:=by decide
theorem isP_word{s:List UInt8}{t:Tk}{r:List Tk}(h:TkOK t)(hs:wordB s=true):isP s (t::r)=(t.k==1 && (t.s==s)):=by
 simp only[isP]
 by_cases h5:t.k=5
 · have hm:=h.1 h5
   by_cases he:t.s=s
   · rw[he] at hm;rw[marks_noword s hm] at hs
     cases hs
   · rw[beq_eq_false_iff_ne.2 he,Bool.false_and,Bool.and_false]
 · have h5':(t.k==5)=false:=by simpa using h5
   rw[h5',Bool.or_false,Bool.and_comm]
theorem isP_mark{s:List UInt8}{t:Tk}{r:List Tk}(h:TkOK t)(hs:s∈marksL):isP s (t::r)=(t.k==5 && (t.s==s)):=by
 simp only[isP]
 by_cases h1:t.k=1
 · have hm:=h.2 h1
   by_cases he:t.s=s
   · rw[he] at hm;exact absurd hs hm
   · rw[beq_eq_false_iff_ne.2 he,Bool.false_and,Bool.and_false]
 · have h1':(t.k==1)=false:=by simpa using h1
   rw[h1',Bool.false_or,Bool.and_comm]
def Ask(s:List UInt8):Prop:=wordB s=true∨s∈marksL
theorem Ask.kind{s:List UInt8}(h:Ask s):∃ k:Int,(k=1∧wordB s=true∨k=5∧wordB s=false)∧∀ t r,TkOK t→isP s (t::r)=(t.k==k && (t.s==s)):=by
 by_cases hw:wordB s=true
 · exact⟨1,.inl ⟨rfl,hw⟩,fun t r ht=>isP_word ht hw⟩
 · have hw':wordB s=false:=by simpa using hw
   exact⟨5,.inr ⟨rfl,hw'⟩,fun t r ht=>isP_mark ht (h.resolve_left hw)⟩
def rdA(v:Value)(i:Int)(va vp:Value)(sz:Nat):Array Value:=#[v,.int .i64 i,va,vp,.int .i64 (sz:Int)]
structure QSt (w:World) (b:Nat) (A:Option Addr) (n c:Nat) (all r:List Tk) (va vp:Value) (sz:Nat):Prop where
 row:w.heap[b]?=some (.cells (rdA (.slice A n c) ((n-r.length:Nat):Int) va vp sz) 60)
 rd:RdK (bl b w) A n all
 len:r.length≤n
 pre:all.drop (n-r.length)=r
 fin:EndR r
 tks:∀ t∈all,TkOK t
section
variable {w w':World}{b:Nat}{A:Option Addr}{n c:Nat}{all r:List Tk}{va vp:Value}{sz:Nat}
theorem QSt.lt(h:QSt w b A n c all r va vp sz):b<w.heap.size:=(Array.getElem?_eq_some_iff.1 h.row).1
theorem QSt.cell(h:QSt w b A n c all r va vp sz)(j:Nat):w.cell? ⟨b,j,none⟩=(rdA (.slice A n c) ((n-r.length:Nat):Int) va vp sz)[j]?:=by
 unfold World.cell?;rw[h.row];rfl
theorem QSt.fz(h:QSt w b A n c all r va vp sz)(j:Nat):w.frozen? ⟨b,j,none⟩=false:=by
 unfold World.frozen?;rw[h.row]
 simp
theorem QSt.max(h:QSt w b A n c all r va vp sz):n≤9223372036854775807:=h.rd.2.1
theorem QSt.pos(h:QSt w b A n c all r va vp sz):1≤r.length:=by
 obtain⟨t,r',e⟩:=h.fin.cons_;rw[e];simp
theorem QSt.below(h:QSt w b A n c all r va vp sz)(hb:Below w.heap.size w w'):QSt w' b A n c all r va vp sz:=
 ⟨(hb.block b h.lt).trans h.row,h.rd.below (by rw[bl_size];exact bl_of hb),h.len,h.pre,h.fin,h.tks⟩
theorem QSt.tok(h:QSt w b A n c all r va vp sz):∃ t r' b0 off,r=t::r'∧A=some ⟨b0,off,none⟩∧b0≠b∧b0<w.heap.size∧n-r.length<n∧all[n-r.length]?=some t ∧
 w.cell? ⟨b0,off+(n-r.length)*4,none⟩=some (.int .i64 t.k)∧w.cell? ⟨b0,off+(n-r.length)*4+1,none⟩=some (.string (ofL t.s)) ∧
 w.cell? ⟨b0,off+(n-r.length)*4+2,none⟩=some (.int .i64 t.n)∧w.cell? ⟨b0,off+(n-r.length)*4+3,none⟩=some (.int .i64 (t.a:Int)):=by
 obtain⟨t,r',e⟩:=h.fin.cons_;have hp:=h.pos;have hl:=h.len;obtain⟨b0,off,rfl,hb0,hc⟩:=h.rd.2.2 (by omega);have hi:n-r.length<n:=by omega
 obtain⟨c0,c1,c2,c3⟩:=hc (n-r.length) hi
 have hat:all[n-r.length]?=some t:=by
  have:=h.pre;rw[e] at this ⊢;have h2:=congrArg (fun l=>l[0]?) this
  simpa using h2
 rw[hat,Option.getD_some] at c0 c1 c2 c3;refine⟨t,r',b0,off,e,rfl,?_,by rwa [bl_size] at hb0,hi,hat,bl_some c0,bl_some c1,bl_some c2,bl_some c3⟩;rintro rfl;unfold World.cell? at c0;rw[bl_at (k:=0)] at c0;simp only at c0
 split at c0
 · rename_i cc x y e2
   split at e2
   · injection e2 with e2;injection e2 with e3;subst e3
     simp at c0
   · cases e2
 · cases c0
theorem QSt.next{t:Tk}{r':List Tk}(h:QSt w b A n c all (t::r') va vp sz)(ht:t.k≠6):QSt (w.setCell ⟨b,1,none⟩ (.int .i64 ((n-r'.length:Nat):Int))) b A n c all r' va vp sz:=by
 have hl:=h.len;simp only[List.length_cons] at hl;refine⟨?_,by rw[bl_set];exact h.rd,by omega,?_,h.fin.tail ht,h.tks⟩
 · rw[setCell_eq_setRow _ _ _ _ _ _ _ h.row,setRow_heap _ _ _ _ _ _ h.row];rfl
 · have h1:=h.pre;simp only[List.length_cons] at h1;rw[show n-r'.length=(n-(r'.length+1))+1 by omega,← List.drop_drop,h1];rfl
theorem QSt.drew(h:QSt w b A n c all r va vp sz):QSt w.drew b A n c all r va vp sz:=h.below (below_drewN (Below.refl _ _) 1)
theorem QSt.alloc(h:QSt w b A n c all r va vp sz)(o:Obj):QSt (w.alloc o) b A n c all r va vp sz:=h.below ((Below.refl _ _).alloc (Nat.le_refl _) o)
theorem QSt.setRow(h:QSt w b A n c all r va vp sz){g:Nat}(hg:g≠b)(hA:∀ b0 off,A=some ⟨b0,off,none⟩→b0≠g)(cs:Array Value):QSt (w.setRow g cs) b A n c all r va vp sz:=by
 refine⟨(setRow_other _ _ _ _ (Ne.symm hg)).trans h.row,?_,h.len,h.pre,h.fin,h.tks⟩;obtain⟨h1,h2,h3⟩:=h.rd;refine⟨h1,h2,fun hn=>?_⟩;obtain⟨b0,off,e,hlt,hc⟩:=h3 hn;refine⟨b0,off,e,by rw[bl_size,setRow_size];rwa [bl_size] at hlt,fun i hi=>?_⟩
 have hx:∀ p:Addr,p.block=b0→(bl b (w.setRow g cs)).cell? p=(bl b w).cell? p:=fun p hp=>by
  rw[bl_setRow hg,cell_setRow_other _ _ _ _ (by rw[hp];exact hA b0 off e)]
 obtain⟨c0,c1,c2,c3⟩:=hc i hi;exact⟨(hx _ rfl).trans c0,(hx _ rfl).trans c1,(hx _ rfl).trans c2,(hx _ rfl).trans c3⟩
structure TokQ (w:World) (b:Nat) (A:Option Addr) (n c:Nat) (all:List Tk) (t:Tk) (r':List Tk) (va vp:Value) (sz:Nat) (b0 off i:Nat) (j:Int):Prop where
 a:A=some ⟨b0,off,none⟩
 ok:TkOK t
 q0:w.cell? ⟨b,0,none⟩=some (.slice A n c)
 q1:w.cell? ⟨b,1,none⟩=some (.int .i64 (i:Int))
 lb:b<w.heap.size
 l0:b0<w.heap.size
 ne:b0≠b
 lt:i<n
 mx:n≤9223372036854775807
 t0:w.cell? ⟨b0,off+i*4,none⟩=some (.int .i64 t.k)
 t1:w.cell? ⟨b0,off+i*4+1,none⟩=some (.string (ofB t.s))
 t2:w.cell? ⟨b0,off+i*4+2,none⟩=some (.int .i64 t.n)
 t3:w.cell? ⟨b0,off+i*4+3,none⟩=some (.int .i64 (t.a:Int))
 add:(i:Int)+1=j
 je:((n-r'.length:Nat):Int)=j
 jn:0≤j∧j≤9223372036854775807
 p1:∀ w1,Below w.heap.size w w1→w1.cell? ⟨b,1,none⟩=some (.int .i64 (i:Int))
 fz:∀ w1,Below w.heap.size w w1→∀ j,w1.frozen? ⟨b,j,none⟩=false
 st:∀ w1,Below w.heap.size w w1→QSt w1 b A n c all (t::r') va vp sz
 nx:∀ w1,Below w.heap.size w w1→t.k≠6→QSt (w1.setCell ⟨b,1,none⟩ (.int .i64 j)) b A n c all r' va vp sz
theorem QSt.tokQ(h:QSt w b A n c all r va vp sz):∃ t r' b0 off i j,r=t::r'∧TokQ w b A n c all t r' va vp sz b0 off i j:=by
 obtain⟨t,r',b0,off,e,ha,hne,hb0,hi,hat,t0,t1,t2,t3⟩:=h.tok;have hl:=h.len;have hm:=h.max;subst e;simp only[List.length_cons] at hl;refine⟨t,r',b0,off,n-(t::r').length,((n-r'.length:Nat):Int),rfl,ha,h.tks t (List.mem_of_getElem? hat),h.cell 0,h.cell 1,h.lt,hb0,hne,hi,hm,t0,t1,t2,t3,?_,rfl,by omega,fun w1 h1=>(h.below h1).cell 1,fun w1 h1 j=>(h.below h1).fz j,fun w1 h1=>h.below h1,fun w1 h1 h2=>(h.below h1).next h2⟩;simp only[List.length_cons];omega
theorem beq_ofB(l:List UInt8)(s:ByteArray):((ofB l).toList==s.toList)=(l==s.data.toList):=by
 rw[Lib.toList_data,Lib.toList_data];rfl
theorem rrIs(s:ByteArray)(hs:Ask s.data.toList)(h:QSt w b A n c all r va vp sz):
 Calls Tryz.prog 95 #[.pointer (some ⟨b,0,none⟩),.string s] w fun e w'=>e=.returned (.bool (isP s.data.toList r))∧Below w.heap.size w w':=by
 obtain⟨t,r',b0,off,i,j,rfl,HTF⟩:=h.tokQ;obtain⟨kk,hkk,hip⟩:=hs.kind;have HI:=Hd (hip t r' HTF.ok);have HB:=Hd (beq_ofB t.s s);have HW:=Hd (idWord s);obtain rfl:=HTF.a;have q0:=HTF.q0;have q1:=HTF.q1;have hbl:=HTF.lb;have hb0:=HTF.l0;have hmx:=HTF.mx;have hi:=HTF.lt;have t0:=HTF.t0;have t1:=HTF.t1;have t2:=HTF.t2;have t3:=HTF.t3;have hi0:(0:Int)≤(i:Int):=by omega
 have hi1:(i:Int)<(n:Int):=by omega
 clear h HTF hip hs;rw[HI.out];have HB2:=Hd (HB.out.symm);rw[HB2.out];clear HI HB HB2;generalize wordB s.data.toList=wb at *;generalize ofB t.s=ts at *;generalize t.k=k at *;generalize t.n=tn at *;generalize t.a=ta at *
 cases hsb:(ts.toList==s.toList) with
 | false=>
  rcases hkk with⟨rfl,rfl⟩|⟨rfl,rfl⟩
  · cases h1:(k==1) with
    | true=>
     go_enter Tryz.func95,Tryz.ntmps95
     go_wp2_with fail
     refine(HW.out w).mono ?_;rintro e w1 ⟨rfl,rfl⟩
     go_upto_region 4 with(fail)
     go_region
     go_wp2_with fail
     go_ret
     exact⟨rfl,((Below.refl _ _).alloc (Nat.le_refl _) _).drew⟩
    | false=>
     go_enter Tryz.func95,Tryz.ntmps95
     go_wp2_with fail
     refine(HW.out w).mono ?_;rintro e w1 ⟨rfl,rfl⟩
     go_upto_region 4 with(fail)
     go_region
     go_wp2_with fail
     go_ret
     exact⟨rfl,((Below.refl _ _).alloc (Nat.le_refl _) _).drew⟩
  · cases h1:(k==5) with
    | true=>
     go_enter Tryz.func95,Tryz.ntmps95
     go_wp2_with fail
     refine(HW.out w).mono ?_;rintro e w1 ⟨rfl,rfl⟩
     go_upto_region 4 with(fail)
     go_region
     go_wp2_with fail
     go_ret
     exact⟨rfl,((Below.refl _ _).alloc (Nat.le_refl _) _).drew⟩
    | false=>
     go_enter Tryz.func95,Tryz.ntmps95
     go_wp2_with fail
     refine(HW.out w).mono ?_;rintro e w1 ⟨rfl,rfl⟩
     go_upto_region 4 with(fail)
     go_region
     go_wp2_with fail
     go_ret
     exact⟨rfl,((Below.refl _ _).alloc (Nat.le_refl _) _).drew⟩
 | true=>
  rcases hkk with⟨rfl,rfl⟩|⟨rfl,rfl⟩
  · cases h1:(k==1) with
    | true=>
     go_enter Tryz.func95,Tryz.ntmps95
     go_wp2_with fail
     refine(HW.out w).mono ?_;rintro e w1 ⟨rfl,rfl⟩
     go_upto_region 4 with(fail)
     go_region
     go_wp2_with fail
     go_ret
     exact⟨rfl,((Below.refl _ _).alloc (Nat.le_refl _) _).drew⟩
    | false=>
     go_enter Tryz.func95,Tryz.ntmps95
     go_wp2_with fail
     refine(HW.out w).mono ?_;rintro e w1 ⟨rfl,rfl⟩
     go_upto_region 4 with(fail)
     go_region
     go_wp2_with fail
     go_ret
     exact⟨rfl,((Below.refl _ _).alloc (Nat.le_refl _) _).drew⟩
  · cases h1:(k==5) with
    | true=>
     go_enter Tryz.func95,Tryz.ntmps95
     go_wp2_with fail
     refine(HW.out w).mono ?_;rintro e w1 ⟨rfl,rfl⟩
     go_upto_region 4 with(fail)
     go_region
     go_wp2_with fail
     go_ret
     exact⟨rfl,((Below.refl _ _).alloc (Nat.le_refl _) _).drew⟩
    | false=>
     go_enter Tryz.func95,Tryz.ntmps95
     go_wp2_with fail
     refine(HW.out w).mono ?_;rintro e w1 ⟨rfl,rfl⟩
     go_upto_region 4 with(fail)
     go_region
     go_wp2_with fail
     go_ret
     exact⟨rfl,((Below.refl _ _).alloc (Nat.le_refl _) _).drew⟩
abbrev Pan:Ending:=.panicked [{ v:=.iface 27 (.int .i64 2),recovered:=false }]
theorem rrStop(p:Value)(w:World):Calls Tryz.prog 98 #[p] w fun e w'=>e=Pan∧w=w':=by
 go_enter Tryz.func98,Tryz.ntmps98
 go_wp2
 exact⟨rfl,rfl,rfl⟩
def QPost{α:Type}(w:World)(b:Nat)(A:Option Addr)(n c:Nat)(all:List Tk)(va vp:Value)(sz:Nat)(g:PR α)(V:α→Ending→Prop)(e:Ending)(w':World):Prop:=
 Below w.heap.size (bl b w) (bl b w')∧match g with
  | .ok a r=>QSt w' b A n c all r va vp sz∧V a e
  | .bad r=>QSt w' b A n c all r va vp sz∧e=Pan
theorem QPost.ok_{v:World}{P:Program}{F:Nat}{args:Array Value}{α:Type}{g:PR α}{V:α→Ending→Prop}{a:α}{r:List Tk}(h:Calls P F args v (QPost w b A n c all va vp sz g V))(e:g=.ok a r):
 Calls P F args v fun e w'=>V a e∧QSt w' b A n c all r va vp sz∧Below w.heap.size (bl b w) (bl b w'):=by
 subst e;exact h.mono fun e w' h=>⟨h.2.2,h.2.1,h.1⟩
theorem QPost.bad_{v:World}{P:Program}{F:Nat}{args:Array Value}{α:Type}{g:PR α}{V:α→Ending→Prop}{r:List Tk}(h:Calls P F args v (QPost w b A n c all va vp sz g V))(e:g=.bad r):
 Calls P F args v fun e w'=>e=Pan∧QSt w' b A n c all r va vp sz∧Below w.heap.size (bl b w) (bl b w'):=by
 subst e;exact h.mono fun e w' h=>⟨h.2.2,h.2.1,h.1⟩
theorem res_tk{fn:Func}{p:Tmp}(h:fn.results=#[.cell p 41])(tmps:Array Value)(w:World)(g:Nat)(t:Tk)
 (hp:tmps.getD p undef=.pointer (some ⟨g,0,none⟩)) (hg:Row4 41 w g t):(results fn tmps).run Tryz.prog w=.ok (tkV t) w:=
 results_cell_row h tmps w g _ _ _ _ hp hg Tryz.underlying41 rfl tk_info
def tokQT(t:Tk):Value:=.agg #[.int .i64 t.k,.string (ofB t.s),.int .i64 t.n,.int .i64 (t.a:Int)]
theorem rrToken{t:Tk}{r':List Tk}(h:QSt w b A n c all (t::r') va vp sz)(hk:t.k≠6):
 Calls Tryz.prog 96 #[.pointer (some ⟨b,0,none⟩)] w fun e w'=>e=.returned (tokQT t)∧QSt w' b A n c all r' va vp sz∧Below w.heap.size (bl b w) (bl b w'):=by
 obtain⟨t1,r1,b0,off,i,j,hE,HTF⟩:=h.tokQ;injection hE with hE1 hE2;subst hE1 hE2;have HT:=Hd HTF;obtain rfl:=HTF.a;have q0:=HTF.q0;have q1:=HTF.q1;have hbl:=HTF.lb;have hb0:=HTF.l0;have hmx:=HTF.mx;have hi:=HTF.lt;have t0:=HTF.t0;have t1:=HTF.t1;have t2:=HTF.t2;have t3:=HTF.t3;have hadd:=HTF.add;have hi0:(0:Int)≤(i:Int):=by omega
 have hi1:(i:Int)<(n:Int):=by omega
 have hw:IntKind.i64.wrap ((i:Int)+1)=j:=by rw[hadd,IntKind.wrap_i64];have:=HTF.jn;omega
 have hw2:IntKind.i64.wrap (j-1)=i:=by rw[← hadd,IntKind.wrap_i64];omega
 have hne:=HTF.ne;have f1:=HTF.fz w (Below.refl _ _) 1;clear h HTF
 go_enter Tryz.func96,Tryz.ntmps96
 go_upto_region 2 with(fail)
 generalize hw1:(w.setCell _ _).alloc _=w1;have hs1:(w.setCell ⟨b,1,none⟩ (.int .i64 j)).heap.size=w.heap.size:=by simp
 have HR0:=Hd (show Row4 41 w1 w.heap.size tk0 by
  have h2:=Row4.new 41 (w.setCell ⟨b,1,none⟩ (.int .i64 j)) tk0;rw[hs1] at h2;rw[← hw1];exact h2)
 have HN:=Hd (HT.out.nx w (Below.refl _ _) hk)
 have HB1:=Hd (show Below (w.setCell ⟨b,1,none⟩ (.int .i64 j)).heap.size (w.setCell ⟨b,1,none⟩ (.int .i64 j)) w1 by
  rw[← hw1];exact(Below.refl _ _).alloc (Nat.le_refl _) _)
 have HQ1:=Hd (HN.out.below HB1.out)
 have KB:=Hd (show Below w.heap.size (bl b w) (bl b w1) by
  have h2:=bl_of (b:=b) HB1.out;rw[hs1,bl_set] at h2;exact h2)
 have hkeep:∀ o,w1.cell? ⟨b0,o,none⟩=w.cell? ⟨b0,o,none⟩:=fun o=>by
  have h2:=HB1.out.block b0 (by rw[hs1];exact hb0);unfold World.cell?;rw[h2,heap_setCell_other _ _ _ _ (show b0≠b from hne)]
 have t0:=(hkeep _).trans t0;have t1:=(hkeep _).trans t1;have t2:=(hkeep _).trans t2;have t3:=(hkeep _).trans t3;have q0:w1.cell? ⟨b,0,none⟩=some (.slice (some ⟨b0,off,none⟩) n c):=HQ1.out.cell 0
 have q1:w1.cell? ⟨b,1,none⟩=some (.int .i64 j):=by
  rw[HQ1.out.cell 1,← HT.out.je];rfl
 have r0:=HR0.out.c0;have r1:=HR0.out.c1;have r2:=HR0.out.c2;have r3:=HR0.out.c3;have fz:∀ j,w1.frozen? ⟨w.heap.size,j,none⟩=false:=HR0.out.thaw;have f0:=fz 0;have f1:=fz 1;have f2:=fz 2;have f3:=fz 3;have hn1:b0≠w.heap.size:=by omega
 have hn2:w.heap.size≠b0:=by omega
 clear fz hkeep hw1 hk
 go_region
 rw[show ofB t.s=ofL t.s from rfl,four_set HR0.out t];have hgb:w.heap.size≠b:=by omega
 have HR2:=Hd (show Row4 41 (w1.setRow w.heap.size (tkA t)).drew w.heap.size t from HR0.out.set t);have HQ2:=Hd (show QSt (w1.setRow w.heap.size (tkA t)).drew b (some ⟨b0,off,none⟩) n c all r' va vp sz from(HQ1.out.setRow hgb (fun b1 o1 e=>by injection e with e;injection e with e1 _;omega) _).drew);have KB2:=Hd (show Below w.heap.size (bl b w) (bl b (w1.setRow w.heap.size (tkA t)).drew) from kb_drew (kb_setRow KB.out hgb (Nat.le_refl _) _));generalize (w1.setRow w.heap.size (tkA t)).drew=w2 at *
 go_wp2_with fail
 exact bodyPost_ret (res_tk (p:=2) rfl _ _ w.heap.size t rfl HR2.out) rfl ⟨rfl,HQ2.out,KB2.out⟩
end
end
section
open Go.RowKit Go.Sort
section
variable {w w':World}{b:Nat}{A:Option Addr}{n c:Nat}{all r:List Tk}{va vp:Value}{sz:Nat}
theorem rrTook_yes(s:ByteArray)(hs:Ask s.data.toList)(h:QSt w b A n c all r va vp sz)(hi:isP s.data.toList r=true):
 Calls Tryz.prog 55 #[.pointer (some ⟨b,0,none⟩),.string s] w fun e w'=>e=.returned (.bool true)∧QSt w' b A n c all r.tail va vp sz∧Below w.heap.size (bl b w) (bl b w'):=by
 have HI:=Hd (rrIs s hs h);rw[hi] at HI;obtain⟨t,r',rfl,hts,hk⟩:=isP_cons hi;have HT:=Hd fun w1 (h1:Below w.heap.size w w1)=>rrToken (h.below h1) (show t.k≠6 by omega);clear h hi hts hk
 show Calls _ _ _ _ fun e w'=>e=.returned (.bool true)∧QSt w' b A n c all r' va vp sz∧Below w.heap.size (bl b w) (bl b w')
 go_enter Tryz.func55,Tryz.ntmps55
 go_wp2_with fail
 refine HI.out.mono ?_;rintro e w1 ⟨rfl,hb1⟩;have HB1:=Hd hb1;clear hb1
 go_wp2_with fail
 refine(HT.out w1 HB1.out).mono ?_;rintro e w2 ⟨rfl,hq2,hb2⟩;have HQ2:=Hd hq2;have HB2:=Hd (kb_trans (bl_of HB1.out) hb2);clear hq2 hb2
 go_wp2_with fail
 go_ret
 exact⟨rfl,HQ2.out,HB2.out⟩
theorem rrTook_no(s:ByteArray)(hs:Ask s.data.toList)(h:QSt w b A n c all r va vp sz)(hi:isP s.data.toList r=false):
 Calls Tryz.prog 55 #[.pointer (some ⟨b,0,none⟩),.string s] w fun e w'=>e=.returned (.bool false)∧QSt w' b A n c all r va vp sz∧Below w.heap.size (bl b w) (bl b w'):=by
 have HI:=Hd (rrIs s hs h);rw[hi] at HI;have HQ:=Hd fun w1 (h1:Below w.heap.size w w1)=>h.below h1;clear h hi
 go_enter Tryz.func55,Tryz.ntmps55
 go_wp2_with fail
 refine HI.out.mono ?_;rintro e w1 ⟨rfl,hb1⟩;have HB1:=Hd hb1;clear hb1
 go_wp2_with fail
 go_ret
 exact⟨rfl,HQ.out w1 HB1.out,bl_of HB1.out⟩
theorem rrTake(s:ByteArray)(hs:Ask s.data.toList)(h:QSt w b A n c all r va vp sz):
 Calls Tryz.prog 59 #[.pointer (some ⟨b,0,none⟩),.string s] w (QPost w b A n c all va vp sz (needP s.data.toList r) fun _ e=>e=.returned (.tuple #[])):=by
 cases hi:isP s.data.toList r with
 | true=>
  have HT:=Hd (rrTook_yes s hs h hi);rw[show needP s.data.toList r=.ok () r.tail by simp[needP,hi]];clear h hi
  go_enter Tryz.func59,Tryz.ntmps59
  go_wp2_with fail
  refine HT.out.mono ?_;rintro e w1 ⟨rfl,hq1,hb1⟩;have HQ1:=Hd hq1;have HB1:=Hd hb1;clear hq1 hb1
  go_wp2_with fail
  go_end0
  exact⟨HB1.out,HQ1.out,rfl⟩
 | false=>
  have HT:=Hd (rrTook_no s hs h hi);rw[show needP s.data.toList r=.bad r by simp[needP,hi]];clear h hi
  go_enter Tryz.func59,Tryz.ntmps59
  go_wp2_with fail
  refine HT.out.mono ?_;rintro e w1 ⟨rfl,hq1,hb1⟩;have HQ1:=Hd hq1;have HB1:=Hd hb1;clear hq1 hb1
  go_wp2_with fail
  refine(rrStop _ _).mono ?_;rintro e w2 ⟨rfl,rfl⟩
  go_wp2_with fail
  exact⟨rfl,HB1.out,HQ1.out,rfl⟩
theorem rrIsName(h:QSt w b A n c all r va vp sz):
 Calls Tryz.prog 97 #[.pointer (some ⟨b,0,none⟩)] w fun e w'=>e=.returned (.bool (isNameP r))∧Below w.heap.size w w':=by
 obtain⟨t,r',b0,off,i,j,rfl,HTF⟩:=h.tokQ;have HW:=Hd (show ∀ w1,Calls Tryz.prog 110 #[.string (ofB t.s)] w1 fun e w'=>e=.returned (.bool (wordB t.s))∧w1=w' from idWord (ofL t.s));have HI:=Hd (show isNameP (t::r')=(t.k==1 && !wordB t.s) from rfl);obtain rfl:=HTF.a;have q0:=HTF.q0;have q1:=HTF.q1;have hbl:=HTF.lb;have hb0:=HTF.l0;have hmx:=HTF.mx;have hi:=HTF.lt;have t0:=HTF.t0;have t1:=HTF.t1;have t2:=HTF.t2;have t3:=HTF.t3;have hi0:(0:Int)≤(i:Int):=by omega
 have hi1:(i:Int)<(n:Int):=by omega
 clear h HTF;rw[HI.out];clear HI;generalize wordB t.s=wb at *;generalize ofB t.s=ts at *;generalize t.k=k at *;generalize t.n=tn at *;generalize t.a=ta at *
 cases h1:(k==1) with
 | false=>
  clear HW
  go_enter Tryz.func97,Tryz.ntmps97
  go_upto_region 1 with(fail)
  go_region
  go_wp2_with fail
  go_ret
  exact⟨rfl,((Below.refl _ _).alloc (Nat.le_refl _) _).drew⟩
 | true=>
  go_enter Tryz.func97,Tryz.ntmps97
  go_upto_region 1 with(fail)
  go_region
  go_wp2_with fail
  refine(HW.out _).mono ?_;rintro e w1 ⟨rfl,rfl⟩
  go_wp2_with fail
  go_ret
  exact⟨rfl,((Below.refl _ _).alloc (Nat.le_refl _) _).drew⟩
theorem field_s(k s n a:Value)(w:World):(Instr.field 41 (.agg #[k,s,n,a]) 1).run Tryz.prog w=.ok s w:=by
 have hu:=Tryz.underlying41
 simp[Instr.field,go_sem,hu,asAgg]
theorem rrName(h:QSt w b A n c all r va vp sz):
 Calls Tryz.prog 56 #[.pointer (some ⟨b,0,none⟩)] w (QPost w b A n c all va vp sz (nameP r) fun s e=>e=.returned (.string (ofB s))):=by
 have HN:=Hd (rrIsName h);obtain⟨t,r',e⟩:=h.fin.cons_;subst e;have HQ:=Hd fun w1 (h1:Below w.heap.size w w1)=>h.below h1;have HI:=Hd (show isNameP (t::r')=(t.k==1 && !wordB t.s) from rfl);have HG:=Hd (show nameP (t::r')=if t.k=1∧wordB t.s=false then .ok t.s r' else .bad (t::r') from rfl);clear h
 cases hi:isNameP (t::r') with
 | false=>
  rw[hi] at HN HI
  have HE:=Hd (show nameP (t::r')=.bad (t::r') by
   rw[HG.out,if_neg];rintro ⟨h1,h2⟩;have:=HI.out
   simp[h1,h2] at this)
  rw[HE.out];clear HE HG HI hi
  go_enter Tryz.func56,Tryz.ntmps56
  go_wp2_with fail
  refine HN.out.mono ?_;rintro e w1 ⟨rfl,hb1⟩;have HB1:=Hd hb1;clear hb1
  go_wp2_with fail
  refine(rrStop _ _).mono ?_;rintro e w2 ⟨rfl,rfl⟩
  go_wp2_with fail
  exact⟨rfl,bl_of HB1.out,HQ.out _ HB1.out,rfl⟩
 | true=>
  rw[hi] at HN HI
  have hk:t.k=1∧wordB t.s=false:=by
   have:=HI.out.symm
   simpa using this
  have HE:=Hd (show nameP (t::r')=.ok t.s r' by rw[HG.out,if_pos hk]);have HT:=Hd fun w1 (h1:Below w.heap.size w w1)=>rrToken (HQ.out w1 h1) (show t.k≠6 by omega);rw[HE.out];clear HE HG HI hi hk;unfold tokQT at HT;have hfs:=field_s
  go_enter Tryz.func56,Tryz.ntmps56
  go_wp2_with fail
  refine HN.out.mono ?_;rintro e w1 ⟨rfl,hb1⟩;have HB1:=Hd hb1;clear hb1
  go_wp2_with fail
  refine(HT.out w1 HB1.out).mono ?_;rintro e w2 ⟨rfl,hq2,hb2⟩;have HQ2:=Hd hq2;have HB2:=Hd (kb_trans (bl_of HB1.out) hb2);clear hq2 hb2
  go_wp2_with fail
  go_ret
  exact⟨HB2.out,HQ2.out,rfl⟩
end
end
section
open Go.RowKit Go.Sort
def isArmP(r:List Tk):Bool:=headK r==2 || (isP trueL r || isP falseL r)
theorem ask_true:Ask trueL:=.inl (by decide)
theorem ask_false:Ask falseL:=.inl (by decide)
theorem arm_yes{t:Tk}{r':List Tk}(h:isArmP (t::r')=true):armP (t::r')=.ok t.s r'∧t.k≠6:=by
 simp only[isArmP,headK,Bool.or_eq_true,beq_iff_eq] at h
 by_cases h1:isP trueL (t::r')=true
 · obtain⟨t1,r1,e,hs,hk⟩:=isP_cons h1;injection e with e1 e2;subst e1 e2;exact⟨by simp only[armP,h1,if_true,hs,List.tail_cons],by omega⟩
 · by_cases h2:isP falseL (t::r')=true
   · obtain⟨t1,r1,e,hs,hk⟩:=isP_cons h2;injection e with e1 e2;subst e1 e2;exact⟨by simp only[armP,h1,h2,if_true,if_false,hs,List.tail_cons,Bool.false_eq_true],by omega⟩
   · have hk:t.k=2:=by
      rcases h with h | h | h
      · exact h
      · exact absurd h h1
      · exact absurd h h2
     exact⟨by simp only[armP,h1,h2,hk,if_true,if_false,Bool.false_eq_true],by omega⟩
theorem arm_no{t:Tk}{r':List Tk}(h:isArmP (t::r')=false):armP (t::r')=.bad (t::r'):=by
 simp only[isArmP,headK,Bool.or_eq_false_iff,beq_eq_false_iff_ne] at h;simp only[armP,h.1,h.2.1,h.2.2,if_false,Bool.false_eq_true]
section
variable {w w':World}{b:Nat}{A:Option Addr}{n c:Nat}{all r:List Tk}{va vp:Value}{sz:Nat}
theorem rrIsArm(h:QSt w b A n c all r va vp sz):
 Calls Tryz.prog 57 #[.pointer (some ⟨b,0,none⟩)] w fun e w'=>e=.returned (.bool (isArmP r))∧Below w.heap.size w w':=by
 have HQ:=Hd fun w1 (h1:Below w.heap.size w w1)=>h.below h1;have HT:=Hd fun d os=>Calls.regrown_of (rrIs ⟨#[116,114,117,101]⟩ ask_true (HQ.out (grow (redrawn w d) os) (below_regrown w d os)));have HF:=Hd fun d os=>Calls.regrown_of (rrIs ⟨#[102,97,108,115,101]⟩ ask_false (HQ.out (grow (redrawn w d) os) (below_regrown w d os)));rw[show(⟨#[116,114,117,101]⟩:ByteArray).data.toList=trueL from rfl] at HT;rw[show(⟨#[102,97,108,115,101]⟩:ByteArray).data.toList=falseL from rfl] at HF;obtain⟨t,r',b0,off,i,j,rfl,HTF⟩:=h.tokQ;have HI:=Hd (show isArmP (t::r')=(t.k==2 || (isP trueL (t::r') || isP falseL (t::r'))) from rfl);obtain rfl:=HTF.a;have q0:=HTF.q0;have q1:=HTF.q1;have hbl:=HTF.lb;have hb0:=HTF.l0;have hmx:=HTF.mx;have hi:=HTF.lt;have t0:=HTF.t0;have hi0:(0:Int)≤(i:Int):=by omega
 have hi1:(i:Int)<(n:Int):=by omega
 clear h HTF HQ;rw[HI.out];clear HI;generalize isP trueL (t::r')=bt at *;generalize isP falseL (t::r')=bf at *;generalize t.k=k at *;have l0:=fun d os=>cell_regrown q0 d os;have l1:=fun d os=>cell_regrown q1 d os;have l2:=fun d os=>cell_regrown t0 d os;clear q0 q1 t0
 cases h1:(k==2) with
 | true=>
  clear HT HF
  go_enter Tryz.func57,Tryz.ntmps57
  go_upto_region 1 with(fail)
  refine wp_region_quiet_below (by kernel_rfl) (by kernel_rfl) ?_
  repeat (quiet_step (fail))
  refine wpQuiet_nil ?_;intro _ hw';obtain⟨⟨dq,osq⟩,hw''⟩:=hw';subst hw'';have HB:=Hd (below_regrown w dq osq);clear l0 l1 l2;generalize grow (redrawn w dq) osq=wq at *
  go_wp2_with fail
  go_ret
  exact⟨rfl,HB.out⟩
 | false=>
  have cT:=HT.out;clear HT
  cases bt with
  | true=>
   clear HF
   go_enter Tryz.func57,Tryz.ntmps57
   go_upto_region 1 with(fail)
   refine wp_region_quiet_below (by kernel_rfl) (by kernel_rfl) ?_
   repeat (quiet_step (with_reducible exact cT _ _))
   refine wpQuiet_nil ?_;intro _ hw';obtain⟨⟨dq,osq⟩,hw''⟩:=hw';subst hw'';have HB:=Hd (below_regrown w dq osq);clear l0 l1 l2 cT;generalize grow (redrawn w dq) osq=wq at *
   go_wp2_with fail
   go_ret
   exact⟨rfl,HB.out⟩
  | false=>
   have cF:=HF.out;clear HF
   go_enter Tryz.func57,Tryz.ntmps57
   go_upto_region 1 with(fail)
   refine wp_region_quiet_below (by kernel_rfl) (by kernel_rfl) ?_
   repeat (quiet_step (first | (with_reducible exact cT _ _) | (with_reducible exact cF _ _)))
   refine wpQuiet_nil ?_;intro _ hw';obtain⟨⟨dq,osq⟩,hw''⟩:=hw';subst hw'';have HB:=Hd (below_regrown w dq osq);clear l0 l1 l2 cT cF;generalize grow (redrawn w dq) osq=wq at *
   go_wp2_with fail
   go_ret
   exact⟨rfl,HB.out⟩
theorem rrArm(h:QSt w b A n c all r va vp sz):
 Calls Tryz.prog 58 #[.pointer (some ⟨b,0,none⟩)] w (QPost w b A n c all va vp sz (armP r) fun s e=>e=.returned (.string (ofB s))):=by
 have HN:=Hd (rrIsArm h);obtain⟨t,r',e⟩:=h.fin.cons_;subst e;have HQ:=Hd fun w1 (h1:Below w.heap.size w w1)=>h.below h1;clear h
 cases hi:isArmP (t::r') with
 | false=>
  rw[hi] at HN;have HE:=Hd (arm_no hi);rw[HE.out];clear HE hi
  go_enter Tryz.func58,Tryz.ntmps58
  go_wp2_with fail
  refine HN.out.mono ?_;rintro e w1 ⟨rfl,hb1⟩;have HB1:=Hd hb1;clear hb1
  go_wp2_with fail
  refine(rrStop _ _).mono ?_;rintro e w2 ⟨rfl,rfl⟩
  go_wp2_with fail
  exact⟨rfl,bl_of HB1.out,HQ.out _ HB1.out,rfl⟩
 | true=>
  rw[hi] at HN;have HE:=Hd (arm_yes hi);have HT:=Hd fun w1 (h1:Below w.heap.size w w1)=>rrToken (HQ.out w1 h1) HE.out.2;rw[HE.out.1];clear HE hi;unfold tokQT at HT;have hfs:=field_s
  go_enter Tryz.func58,Tryz.ntmps58
  go_wp2_with fail
  refine HN.out.mono ?_;rintro e w1 ⟨rfl,hb1⟩;have HB1:=Hd hb1;clear hb1
  go_wp2_with fail
  refine(HT.out w1 HB1.out).mono ?_;rintro e w2 ⟨rfl,hq2,hb2⟩;have HQ2:=Hd hq2;have HB2:=Hd (kb_trans (bl_of HB1.out) hb2);clear hq2 hb2
  go_wp2_with fail
  go_ret
  exact⟨HB2.out,HQ2.out,rfl⟩
theorem ask_not:Ask notL:=.inl (by decide)
theorem ask_40:Ask [40]:=.inr (by decide)
theorem ask_41:Ask [41]:=.inr (by decide)
def WhenV(z:List UInt8 × List UInt8)(e:Ending):Prop:=e=.returned (.tuple #[.string (ofB z.1),.string (ofB z.2)])
theorem when_noarm(h1:isP notL r=false)(h2:isArmP r=false):whenP r=(nameP r).bind fun n r=>.ok (n,trueL) r:=by
 simp only[isArmP,Bool.or_eq_false_iff,beq_eq_false_iff_ne] at h2;simp only[whenP,h1,h2.1,h2.2.1,h2.2.2,if_false,Bool.false_eq_true,or_self,false_or]
theorem when_arm(h1:isP notL r=false)(h2:isArmP r=true):whenP r=(armP r).bind fun a r=>(needP [40] r).bind fun _ r=>(nameP r).bind fun n r=>(needP [41] r).bind fun _ r=>.ok (n,a) r:=by
 simp only[isArmP,Bool.or_eq_true,beq_iff_eq] at h2;simp only[whenP,h1,if_false,Bool.false_eq_true];rw[if_pos h2]
theorem rrWhen(h:QSt w b A n c all r va vp sz):
 Calls Tryz.prog 29 #[.pointer (some ⟨b,0,none⟩)] w (QPost w b A n c all va vp sz (whenP r) WhenV):=by
 cases h1:isP notL r with
 | true=>
  have HT:=Hd (rrTook_yes ⟨#[110,111,116]⟩ ask_not h h1);have HE:=Hd (show whenP r=(nameP r.tail).bind fun n r=>.ok (n,falseL) r by simp only[whenP,h1,if_true]);rw[HE.out];clear HE h1 h;generalize r.tail=r1 at *
  cases hn:nameP r1 with
  | ok s r2=>
   simp only[PR.bind_ok]
   go_enter Tryz.func29,Tryz.ntmps29
   go_wp2_with fail
   refine HT.out.mono ?_;rintro e w1 ⟨rfl,hq1,hb1⟩;have HN:=Hd (QPost.ok_ (rrName hq1) hn);have HB1:=Hd hb1;clear hq1 hb1 hn
   go_wp2_with fail
   refine HN.out.mono ?_;rintro e w2 ⟨rfl,hq2,hb2⟩;have HQ2:=Hd hq2;have HB2:=Hd (kb_trans HB1.out hb2);clear hq2 hb2
   go_wp2_with fail
   go_ret2
   exact⟨HB2.out,HQ2.out,rfl⟩
  | bad r2=>
   simp only[PR.bind_bad]
   go_enter Tryz.func29,Tryz.ntmps29
   go_wp2_with fail
   refine HT.out.mono ?_;rintro e w1 ⟨rfl,hq1,hb1⟩;have HN:=Hd (QPost.bad_ (rrName hq1) hn);have HB1:=Hd hb1;clear hq1 hb1 hn
   go_wp2_with fail
   refine HN.out.mono ?_;rintro e w2 ⟨rfl,hq2,hb2⟩;have HQ2:=Hd hq2;have HB2:=Hd (kb_trans HB1.out hb2);clear hq2 hb2
   go_wp2_with fail
   exact⟨rfl,HB2.out,HQ2.out,rfl⟩
 | false=>
  have HT:=Hd (rrTook_no ⟨#[110,111,116]⟩ ask_not h h1)
  cases h2:isArmP r with
  | false=>
   have HE:=Hd (when_noarm h1 h2);rw[HE.out];clear HE h1 h
   cases hn:nameP r with
   | ok s r2=>
    simp only[PR.bind_ok]
    go_enter Tryz.func29,Tryz.ntmps29
    go_wp2_with fail
    refine HT.out.mono ?_;rintro e w1 ⟨rfl,hq1,hb1⟩;have HA:=Hd (h2 ▸ rrIsArm hq1);have HN:=Hd fun w2 (h:Below w1.heap.size w1 w2)=>QPost.ok_ (rrName (hq1.below h)) hn;have HB1:=Hd hb1;clear hq1 hb1 hn h2
    go_wp2_with fail
    refine HA.out.mono ?_;rintro e w2 ⟨rfl,hb2⟩;have HB2:=Hd (kb_trans HB1.out (bl_of hb2));have HN2:=Hd (HN.out w2 hb2);clear hb2 HN
    go_wp2_with fail
    refine HN2.out.mono ?_;rintro e w3 ⟨rfl,hq3,hb3⟩;have HQ3:=Hd hq3;have HB3:=Hd (kb_trans HB2.out hb3);clear hq3 hb3
    go_wp2_with fail
    go_ret2
    exact⟨HB3.out,HQ3.out,rfl⟩
   | bad r2=>
    simp only[PR.bind_bad]
    go_enter Tryz.func29,Tryz.ntmps29
    go_wp2_with fail
    refine HT.out.mono ?_;rintro e w1 ⟨rfl,hq1,hb1⟩;have HA:=Hd (h2 ▸ rrIsArm hq1);have HN:=Hd fun w2 (h:Below w1.heap.size w1 w2)=>QPost.bad_ (rrName (hq1.below h)) hn;have HB1:=Hd hb1;clear hq1 hb1 hn h2
    go_wp2_with fail
    refine HA.out.mono ?_;rintro e w2 ⟨rfl,hb2⟩;have HB2:=Hd (kb_trans HB1.out (bl_of hb2));have HN2:=Hd (HN.out w2 hb2);clear hb2 HN
    go_wp2_with fail
    refine HN2.out.mono ?_;rintro e w3 ⟨rfl,hq3,hb3⟩;have HQ3:=Hd hq3;have HB3:=Hd (kb_trans HB2.out hb3);clear hq3 hb3
    go_wp2_with fail
    exact⟨rfl,HB3.out,HQ3.out,rfl⟩
  | true=>
   have HE:=Hd (when_arm h1 h2);rw[HE.out];clear HE h1 h
   obtain⟨s1,q1,ha⟩:∃ s q,armP r=.ok s q:=by
    cases r with
    | nil=>exact absurd h2 (by decide)
    | cons t r'=>exact⟨_,_,(arm_yes h2).1⟩
   rw[ha];simp only[PR.bind_ok]
   cases hp:needP [40] q1 with
   | bad q2=>
    simp only[PR.bind_bad]
    go_enter Tryz.func29,Tryz.ntmps29
    go_wp2_with fail
    refine HT.out.mono ?_;rintro e w1 ⟨rfl,hq1,hb1⟩;have HA:=Hd (h2 ▸ rrIsArm hq1);have HN:=Hd fun w2 (h:Below w1.heap.size w1 w2)=>QPost.ok_ (rrArm (hq1.below h)) ha;have HB1:=Hd hb1;clear hq1 hb1 ha h2
    go_wp2_with fail
    refine HA.out.mono ?_;rintro e w2 ⟨rfl,hb2⟩;have HB2:=Hd (kb_trans HB1.out (bl_of hb2));have HN2:=Hd (HN.out w2 hb2);clear hb2 HN
    go_wp2_with fail
    refine HN2.out.mono ?_;rintro e w3 ⟨rfl,hq3,hb3⟩;have HP:=Hd (QPost.bad_ (rrTake ⟨#[40]⟩ ask_40 hq3) hp);have HB3:=Hd (kb_trans HB2.out hb3);clear hq3 hb3 hp
    go_wp2_with fail
    refine HP.out.mono ?_;rintro e w4 ⟨rfl,hq4,hb4⟩;have HQ4:=Hd hq4;have HB4:=Hd (kb_trans HB3.out hb4);clear hq4 hb4
    go_wp2_with fail
    exact⟨rfl,HB4.out,HQ4.out,rfl⟩
   | ok u q2=>
    simp only[PR.bind_ok]
    cases hn:nameP q2 with
    | bad q3=>
     simp only[PR.bind_bad]
     go_enter Tryz.func29,Tryz.ntmps29
     go_wp2_with fail
     refine HT.out.mono ?_;rintro e w1 ⟨rfl,hq1,hb1⟩;have HA:=Hd (h2 ▸ rrIsArm hq1);have HN:=Hd fun w2 (h:Below w1.heap.size w1 w2)=>QPost.ok_ (rrArm (hq1.below h)) ha;have HB1:=Hd hb1;clear hq1 hb1 ha h2
     go_wp2_with fail
     refine HA.out.mono ?_;rintro e w2 ⟨rfl,hb2⟩;have HB2:=Hd (kb_trans HB1.out (bl_of hb2));have HN2:=Hd (HN.out w2 hb2);clear hb2 HN
     go_wp2_with fail
     refine HN2.out.mono ?_;rintro e w3 ⟨rfl,hq3,hb3⟩;have HP:=Hd (QPost.ok_ (rrTake ⟨#[40]⟩ ask_40 hq3) hp);have HB3:=Hd (kb_trans HB2.out hb3);clear hq3 hb3 hp
     go_wp2_with fail
     refine HP.out.mono ?_;rintro e w4 ⟨rfl,hq4,hb4⟩;have HM:=Hd (QPost.bad_ (rrName hq4) hn);have HB4:=Hd (kb_trans HB3.out hb4);clear hq4 hb4 hn
     go_wp2_with fail
     refine HM.out.mono ?_;rintro e w5 ⟨rfl,hq5,hb5⟩;have HQ5:=Hd hq5;have HB5:=Hd (kb_trans HB4.out hb5);clear hq5 hb5
     go_wp2_with fail
     exact⟨rfl,HB5.out,HQ5.out,rfl⟩
    | ok s2 q3=>
     simp only[PR.bind_ok]
     cases hz:needP [41] q3 with
     | bad q4=>
      simp only[PR.bind_bad]
      go_enter Tryz.func29,Tryz.ntmps29
      go_wp2_with fail
      refine HT.out.mono ?_;rintro e w1 ⟨rfl,hq1,hb1⟩;have HA:=Hd (h2 ▸ rrIsArm hq1);have HN:=Hd fun w2 (h:Below w1.heap.size w1 w2)=>QPost.ok_ (rrArm (hq1.below h)) ha;have HB1:=Hd hb1;clear hq1 hb1 ha h2
      go_wp2_with fail
      refine HA.out.mono ?_;rintro e w2 ⟨rfl,hb2⟩;have HB2:=Hd (kb_trans HB1.out (bl_of hb2));have HN2:=Hd (HN.out w2 hb2);clear hb2 HN
      go_wp2_with fail
      refine HN2.out.mono ?_;rintro e w3 ⟨rfl,hq3,hb3⟩;have HP:=Hd (QPost.ok_ (rrTake ⟨#[40]⟩ ask_40 hq3) hp);have HB3:=Hd (kb_trans HB2.out hb3);clear hq3 hb3 hp
      go_wp2_with fail
      refine HP.out.mono ?_;rintro e w4 ⟨rfl,hq4,hb4⟩;have HM:=Hd (QPost.ok_ (rrName hq4) hn);have HB4:=Hd (kb_trans HB3.out hb4);clear hq4 hb4 hn
      go_wp2_with fail
      refine HM.out.mono ?_;rintro e w5 ⟨rfl,hq5,hb5⟩;have HZ:=Hd (QPost.bad_ (rrTake ⟨#[41]⟩ ask_41 hq5) hz);have HB5:=Hd (kb_trans HB4.out hb5);clear hq5 hb5 hz
      go_wp2_with fail
      refine HZ.out.mono ?_;rintro e w6 ⟨rfl,hq6,hb6⟩;have HQ6:=Hd hq6;have HB6:=Hd (kb_trans HB5.out hb6);clear hq6 hb6
      go_wp2_with fail
      exact⟨rfl,HB6.out,HQ6.out,rfl⟩
     | ok u2 q4=>
      simp only[PR.bind_ok]
      go_enter Tryz.func29,Tryz.ntmps29
      go_wp2_with fail
      refine HT.out.mono ?_;rintro e w1 ⟨rfl,hq1,hb1⟩;have HA:=Hd (h2 ▸ rrIsArm hq1);have HN:=Hd fun w2 (h:Below w1.heap.size w1 w2)=>QPost.ok_ (rrArm (hq1.below h)) ha;have HB1:=Hd hb1;clear hq1 hb1 ha h2
      go_wp2_with fail
      refine HA.out.mono ?_;rintro e w2 ⟨rfl,hb2⟩;have HB2:=Hd (kb_trans HB1.out (bl_of hb2));have HN2:=Hd (HN.out w2 hb2);clear hb2 HN
      go_wp2_with fail
      refine HN2.out.mono ?_;rintro e w3 ⟨rfl,hq3,hb3⟩;have HP:=Hd (QPost.ok_ (rrTake ⟨#[40]⟩ ask_40 hq3) hp);have HB3:=Hd (kb_trans HB2.out hb3);clear hq3 hb3 hp
      go_wp2_with fail
      refine HP.out.mono ?_;rintro e w4 ⟨rfl,hq4,hb4⟩;have HM:=Hd (QPost.ok_ (rrName hq4) hn);have HB4:=Hd (kb_trans HB3.out hb4);clear hq4 hb4 hn
      go_wp2_with fail
      refine HM.out.mono ?_;rintro e w5 ⟨rfl,hq5,hb5⟩;have HZ:=Hd (QPost.ok_ (rrTake ⟨#[41]⟩ ask_41 hq5) hz);have HB5:=Hd (kb_trans HB4.out hb5);clear hq5 hb5 hz
      go_wp2_with fail
      refine HZ.out.mono ?_;rintro e w6 ⟨rfl,hq6,hb6⟩;have HQ6:=Hd hq6;have HB6:=Hd (kb_trans HB5.out hb6);clear hq6 hb6
      go_wp2_with fail
      go_ret2
      exact⟨HB6.out,HQ6.out,rfl⟩
end
end
section
open Go.RowKit Go.Sort
def OpsOK(zs:List (Int × ByteArray)):Prop:=zs.length≤100∧∀ z∈zs,z.1≠0∧Ask z.2.data.toList∧signS z.1=z.2
def opR(ops:List (Int × List UInt8))(r:List Tk):List Tk:=if signP ops r=0 then r else r.tail
theorem mem_getD{zs:List (Int × ByteArray)}{k:Nat}(h:k<zs.length):zs[k]?.getD default∈zs:=by
 rw[List.getElem?_eq_getElem h];exact List.getElem_mem _
section
variable {w w':World}{b:Nat}{A:Option Addr}{n c:Nat}{all r:List Tk}{va vp:Value}{sz:Nat}
theorem rrOp(zs:List (Int × ByteArray))(g c1:Nat)(h:QSt w b A n c all r va vp sz)(hz:OpsOK zs)(hs:∀ i,i<zs.length→(bl b w).cell? ⟨g,i,none⟩=some (.int .i64 (zs[i]?.getD default).1)):
 Calls Tryz.prog 134 #[.pointer (some ⟨b,0,none⟩),.slice (some ⟨g,0,none⟩) zs.length c1] w fun e w' =>
  e=.returned (.int .i64 (signP (zsL zs) r))∧QSt w' b A n c all (opR (zsL zs) r) va vp sz∧Below w.heap.size (bl b w) (bl b w'):=by
 have HQ:=Hd h;have HS:=Hd fun w1 (h1:Below w.heap.size (bl b w) (bl b w1)) i (hi:i<zs.length)=>bl_some ((h1.cell (by have:=World.block_lt_of_cell? _ _ (hs i hi);rwa [bl_size] at this)).trans (hs i hi));have HZ:=Hd fun i (hi:i<zs.length)=>hz.2 _ (mem_getD hi);have HSN:=Hd fun(hx:∀ i,i<zs.length→isP (zs[i]?.getD default).2.data.toList r=false)=>sign_none (r:=r) zs hx;have HSF:=Hd fun k hk hx hy=>sign_first (r:=r) zs k hk hx hy;have hzl:=hz.1;generalize hL:zs.length=L at *;clear h hs hz
 go_enter Tryz.func134,Tryz.ntmps134
 go_wp2_with fail
 go_loopw [9] (fun i wr=>∃ k:Nat,k≤L∧i=.int .i64 k∧QSt wr b A n c all r va vp sz∧Below w.heap.size (bl b w) (bl b wr)∧(∀ j,j<k→isP (zs[j]?.getD default).2.data.toList r=false)) (fun i _=>L-(intOf i).toNat)
 case atStart=>exact⟨0,Nat.zero_le _,rfl,HQ.out,Below.refl _ _,fun j hj=>absurd hj (by omega)⟩
 case round=>
  obtain⟨k,hk,rfl,hP,hB,hno⟩:=hrel;have HPK:=Hd hP;have HBK:=Hd hB;have HNO:=Hd hno;clear hP hB hno
  by_cases hlt:k<L
  · have s0:=HS.out wr HBK.out k hlt;obtain⟨hn0,hask,hsg⟩:=HZ.out k hlt;have HSG:=Hd (arSign (zs[k]?.getD default).1);rw[hsg] at HSG;have HN0:=Hd hn0
    cases hb:isP (zs[k]?.getD default).2.data.toList r with
    | true=>
     have HTK:=Hd (rrTook_yes (zs[k]?.getD default).2 hask HPK.out hb);have HE:=Hd (HSF.out k hlt HNO.out hb);clear hb hask hsg hn0;generalize (zs[k]?.getD default).2=sk at *;generalize (zs[k]?.getD default).1=ok at *
     go_wp2_with fail
     refine(HSG.out wr).mono ?_;rintro e w2 ⟨rfl,rfl⟩
     go_wp2_with fail
     refine HTK.out.mono ?_;rintro e w2 ⟨rfl,hq2,hb2⟩;have HQ2:=Hd hq2;have HB2:=Hd (kb_trans HBK.out hb2);clear hq2 hb2 s0
     go_wp2_with fail
     go_ret
     unfold opR;rw[HE.out,if_neg HN0.out];exact⟨rfl,HQ2.out,HB2.out⟩
    | false=>
     have HTK:=Hd (rrTook_no (zs[k]?.getD default).2 hask HPK.out hb);have HB0:=Hd hb;clear hb hask hsg hn0;generalize hsk:(zs[k]?.getD default).2=sk at *;have HSK2:=Hd hsk;clear hsk;generalize (zs[k]?.getD default).1=ok at *
     go_wp2_with fail
     refine(HSG.out wr).mono ?_;rintro e w2 ⟨rfl,rfl⟩
     go_wp2_with fail
     refine HTK.out.mono ?_;rintro e w2 ⟨rfl,hq2,hb2⟩;have HQ2:=Hd hq2;have HB2:=Hd (kb_trans HBK.out hb2);clear hq2 hb2 s0
     go_wp2_with fail
     go_roundw
     case rel=>
      refine⟨k+1,by omega,by go_num,HQ2.out,HB2.out,fun j hj=>?_⟩
      by_cases hjk:j<k
      · exact HNO.out j hjk
      · have:j=k:=by omega
        subst this;rw[HSK2.out];exact HB0.out
     case measure=>simp[intOf];omega
  · have hkl:k=L:=by omega
    subst hkl;have HE:=Hd (HSN.out fun i hi=>HNO.out i hi)
    go_wp2_with fail
    go_ret
    unfold opR;rw[HE.out,if_pos rfl];exact⟨rfl,HPK.out,HBK.out⟩
end
end
section
theorem marks_nolow:∀ m∈marksL,(lowB m || wordB m)=false:=by decide
theorem marks_short:∀ m∈marksL,m.length≤2:=by decide
theorem tok_good{l:List UInt8}{t:Tk}{z:Nat}(h:tokL l=some (t,z)):TkOK t∧t.s.length≤l.length+1∧t.k≠6:=by
 match l,h with
 | c::l,h=>
  rw[tok_cons] at h
  split at h
  · unfold nameT at h
    split at h
    · rename_i hl
      injection h with h;injection h with h _;subst h;refine⟨⟨fun e=>by simp at e,fun _ hm=>?_⟩,?_,by simp⟩
      · have:=marks_nolow _ hm;rw[this] at hl
        cases hl
      · have:=tw_le (p:=fun c=>nameC (c.toNat:Int)) (c::l)
        show(nameL (c::l)).length≤_
        unfold nameL;omega
    · split at h
      · injection h with h;injection h with h _;subst h;refine⟨⟨fun e=>by simp at e,fun e=>by simp at e⟩,?_,by simp⟩;have:=tw_le (p:=fun c=>nameC (c.toNat:Int)) (c::l)
        show(nameL (c::l)).length≤_
        unfold nameL;omega
      · cases h
  split at h
  · unfold numT at h
    split at h
    · cases h
    · injection h with h;injection h with h _;subst h;refine⟨⟨fun e=>by simp at e,fun e=>by simp at e⟩,?_,by simp⟩;have:=tw_le (p:=fun c=>digitB (c.toNat:Int)) (c::l)
      show(digL (c::l)).length≤_
      unfold digL;omega
  split at h
  · unfold pathT at h
    split at h
    · rename_i hq
      injection h with h;injection h with h _;subst h;refine⟨⟨fun e=>by simp at e,fun e=>by simp at e⟩,?_,by simp⟩;have:=hq.1;simp only[List.length_cons];omega
    · cases h
  · unfold markT at h
    cases hm:markL (c::l) with
    | none=>rw[hm] at h;cases h
    | some m=>
     rw[hm] at h;injection h with h;injection h with h _;subst h;have hmem:=(mark_mem hm).1;exact⟨⟨fun _=>hmem,fun e=>by simp at e⟩,by have:=marks_short _ hmem;simp only[List.length_cons];omega,by simp⟩
theorem lex_good(m:Nat)(a:Nat)(l:List UInt8)(hm:l.length≤m):(∀ t∈(lexL a l).1,TkOK t∧t.s.length≤m+1∧t.k≠6)∧(lexL a l).1.length≤l.length:=by
 refine lex_ind (P:=fun a l=>l.length≤m→(∀ t∈(lexL a l).1,TkOK t∧t.s.length≤m+1∧t.k≠6)∧(lexL a l).1.length≤l.length) ?_ ?_ ?_ ?_ l.length a l (Nat.le_refl _) hm
 · intro a _;rw[lex_nil];exact⟨fun t ht=>absurd ht List.not_mem_nil,Nat.le_refl _⟩
 · intro a l h0 hb ih hl;rw[lex_blank hb];obtain⟨h1,h2⟩:=ih (by simp only[List.length_drop];omega);exact⟨h1,by simp only[List.length_drop] at h2;omega⟩
 · intro a l h0 hb ht hl;rw[lex_bad h0 hb ht];exact⟨fun t ht=>absurd ht List.not_mem_nil,Nat.zero_le _⟩
 · intro a l t z h0 hb ht ih hl;rw[lex_tok hb ht];have hz:=(tok_ok ht).1;obtain⟨h1,h2⟩:=ih (by simp only[List.length_drop];omega);have hl0:=List.length_pos_iff.2 h0;obtain⟨g1,g2,g3⟩:=tok_good ht;refine⟨fun u hu=>?_,by simp only[List.length_cons,List.length_drop] at h2 ⊢;omega⟩;rcases List.mem_cons.1 hu with rfl | hu
   · exact⟨g1,by show t.s.length≤_;omega,g3⟩
   · exact h1 u hu
end
end Go.Proofs.YtokiaaapgkdpmaaGreatDoor
