/- A part of the proof. Conditions: each theorem's own. -/
import Derived.Test.YtagkcjpoipcpkaaGreatDoorF14
import Derived.Test.YtagkcjpoipcpkaaGreatDoorF16
namespace Go.Proofs.YtagkcjpoipcpkaaGreatDoor
set_option linter.unusedVariables false
set_option linter.unusedSimpArgs false
set_option maxRecDepth 100000
set_option maxHeartbeats 40000000
section
open Go.RowKit Go.Sort
def iW(t:Tk):Prop:=(t.k=5->t.s∈iD)/\(t.k=1->t.s∉iD)
theorem bJz:∀m∈iD,bQ m=false:=aF
theorem aXj{s:LU}{t:Tk}{r:List Tk}(h:iW t)(hs:bQ s=true):aG s (t::r)=(t.k==1 && (t.s==s)):=by
 simp only[aG];by_cases h5:t.k=5
 . have hm:=h.1 h5;by_cases he:t.s=s
   . rw[he]at hm;rw[bJz s hm]at hs;cases hs
   . rw[Xf.2 he,Bool.false_and,Bool.and_false]
 . have Aa:(t.k==5)=false:=by simpa using h5
   rw[Aa,Bool.or_false,Bool.and_comm]
theorem aNc{s:LU}{t:Tk}{r:List Tk}(h:iW t)(hs:s∈iD):aG s (t::r)=(t.k==5 && (t.s==s)):=by
 simp only[aG];by_cases h1:t.k=1
 . have hm:=h.2 h1;by_cases he:t.s=s
   . rw[he]at hm;exact absurd hs hm
   . rw[Xf.2 he,Bool.false_and,Bool.and_false]
 . have Aa:(t.k==1)=false:=by simpa using h1
   rw[Aa,Bool.false_or,Bool.and_comm]
def fQ(s:LU):Prop:=bQ s=true\/s∈iD
theorem fQ.kind{s:LU}(h:fQ s):∃k:Int,(k=1/\bQ s=true\/k=5/\bQ s=false)/\∀t r,iW t->aG s (t::r)=(t.k==k && (t.s==s)):=by
 by_cases hw:bQ s=true;· exact⟨1,.inl ⟨rfl,hw⟩,fun t r ht=>aXj ht hw⟩
 . have Ch:bQ s=false:=by simpa using hw
   exact⟨5,.inr ⟨rfl,Ch⟩,fun t r ht=>aNc ht (h.resolve_left hw)⟩
def nE(v:Value)(i:Int)(va vp:Value)(sz:Nat):Array Value:=#[v,.int .i64 i,va,vp,.int .i64 (sz:Int)]
structure bM (w:World)(b:Nat)(A:OA)(n c:Nat)(all r:List Tk)(va vp:Value)(sz:Nat):Prop where
 row:w.heap[b]?=some (.cells (nE (.slice A n c) ((n-r.length:Nat):Int) va vp sz) 257)
 rd:eI (bl b w) A n all
 len:r.length<=n
 pre:all.drop (n-r.length)=r
 fin:aU r
 tks:∀t∈all,iW t
section
variable {w w':World}{b:Nat}{A:OA}{n c:Nat}{all r:List Tk}{va vp:Value}{sz:Nat}
theorem bM.lt(h:bM w b A n c all r va vp sz):b<w.heap.size:=(Ym.1 h.row).1
theorem bM.cell(h:bM w b A n c all r va vp sz)(j:Nat):w.cell? ⟨b,j,none⟩=(nE (.slice A n c) ((n-r.length:Nat):Int) va vp sz)[j]?:=by
 unfold World.cell?;rw[h.row];rfl
theorem bM.fz(h:bM w b A n c all r va vp sz)(j:Nat):w.frozen? ⟨b,j,none⟩=false:=by
 exact bE6
theorem bM.max(h:bM w b A n c all r va vp sz):n<=9223372036854775807:=h.rd.2.1
theorem bM.pos(h:bM w b A n c all r va vp sz):1<=r.length:=by
 exact bE5
theorem bM.below(h:bM w b A n c all r va vp sz)(hb:Below w.heap.size w w'):bM w' b A n c all r va vp sz:=
 ⟨(hb.block b h.lt).trans h.row,h.rd.below bF9,h.len,h.pre,h.fin,h.tks⟩
theorem bM.tok(h:bM w b A n c all r va vp sz):∃t r' b0 off,r=t::r'/\A=some ⟨b0,off,none⟩/\b0≠b/\b0<w.heap.size/\n-r.length<n/\all[n-r.length]?=some t/\
 w.cell? ⟨b0,off+(n-r.length)*4,none⟩=some (.int .i64 t.k)/\w.cell? ⟨b0,off+(n-r.length)*4+1,none⟩=some (.string (aZ t.s))/\
 w.cell? ⟨b0,off+(n-r.length)*4+2,none⟩=some (.int .i64 t.n)/\w.cell? ⟨b0,off+(n-r.length)*4+3,none⟩=some (.int .i64 (t.a:Int)):=by
 obtain⟨t,r',e⟩:=h.fin.cons_;have hp:=h.pos;have hl:=h.len;obtain⟨b0,off,rfl,Aa,hc⟩:=h.rd.2.2 aA;have hi:n-r.length<n:=aA;obtain⟨c0,c1,c2,c3⟩:=hc (n-r.length) hi;have Ar:all[n-r.length]?=some t:=by
  exact bDx
 rw[Ar,Yv]at c0 c1 c2 c3;refine⟨t,r',b0,off,e,rfl,?_,by rwa[fC]at Aa,hi,Ar,rU c0,rU c1,rU c2,rU c3⟩;rintro rfl;unfold World.cell? at c0;rw[qQ (k:=0)]at c0;simp only at c0;split at c0;· exact bCz
 . cases c0
theorem bM.next{t:Tk}{r':List Tk}(h:bM w b A n c all (t::r') va vp sz)(ht:t.k≠6):bM (w.setCell ⟨b,1,none⟩ (.int .i64 ((n-r'.length:Nat):Int))) b A n c all r' va vp sz:=by
 have hl:=h.len;simp only[Yq]at hl;refine⟨?_,by rw[aCu];exact h.rd,by omega,?_,h.fin.tail ht,h.tks⟩;· exact aPv
 . exact cB4
theorem bM.drew(h:bM w b A n c all r va vp sz):bM w.drew b A n c all r va vp sz:=h.below (eP (Yg _ _) 1)
theorem bM.alloc(h:bM w b A n c all r va vp sz)(o:Obj):bM (w.alloc o) b A n c all r va vp sz:=h.below ((Yg _ _).alloc (Yh _) o)
theorem bM.setRow(h:bM w b A n c all r va vp sz){g:Nat}(hg:g≠b)(hA:∀b0 off,A=some ⟨b0,off,none⟩->b0≠g)(cs:AV):bM (w.setRow g cs) b A n c all r va vp sz:=by
 refine⟨(setRow_other _ _ _ _ (Ne.symm hg)).trans h.row,?_,h.len,h.pre,h.fin,h.tks⟩;exact cDi
structure cDo (w:World)(b:Nat)(A:OA)(n c:Nat)(all:List Tk)(t:Tk)(r':List Tk)(va vp:Value)(sz:Nat)(b0 off i:Nat)(j:Int):Prop where
 a:A=some ⟨b0,off,none⟩
 ok:iW t
 q0:w.cell? ⟨b,0,none⟩=some (.slice A n c)
 q1:w.cell? ⟨b,1,none⟩=some (.int .i64 (i:Int))
 lb:b<w.heap.size
 l0:b0<w.heap.size
 ne:b0≠b
 lt:i<n
 mx:n<=9223372036854775807
 t0:w.cell? ⟨b0,off+i*4,none⟩=some (.int .i64 t.k)
 t1:w.cell? ⟨b0,off+i*4+1,none⟩=some (.string (aB t.s))
 t2:w.cell? ⟨b0,off+i*4+2,none⟩=some (.int .i64 t.n)
 t3:w.cell? ⟨b0,off+i*4+3,none⟩=some (.int .i64 (t.a:Int))
 add:(i:Int)+1=j
 je:((n-r'.length:Nat):Int)=j
 jn:0<=j/\j<=9223372036854775807
 p1:∀w1,Below w.heap.size w w1->w1.cell? ⟨b,1,none⟩=some (.int .i64 (i:Int))
 fz:∀w1,Below w.heap.size w w1->∀j,w1.frozen? ⟨b,j,none⟩=false
 st:∀w1,Below w.heap.size w w1->bM w1 b A n c all (t::r') va vp sz
 nx:∀w1,Below w.heap.size w w1->t.k≠6->bM (w1.setCell ⟨b,1,none⟩ (.int .i64 j)) b A n c all r' va vp sz
theorem bM.tokQ(h:bM w b A n c all r va vp sz):∃t r' b0 off i j,r=t::r'/\cDo w b A n c all t r' va vp sz b0 off i j:=by
 obtain⟨t,r',b0,off,e,ha,Bv,Aa,hi,Ar,t0,t1,t2,t3⟩:=h.tok;have hl:=h.len;have hm:=h.max;subst e;simp only[Yq]at hl;refine⟨t,r',b0,off,n-(t::r').length,((n-r'.length:Nat):Int),rfl,ha,h.tks t (List.mem_of_getElem? Ar),h.cell 0,h.cell 1,h.lt,Aa,Bv,hi,hm,t0,t1,t2,t3,?_,rfl,by omega,fun w1 h1=>(h.below h1).cell 1,fun w1 h1 j=>(h.below h1).fz j,fun w1 h1=>h.below h1,fun w1 h1 h2=>(h.below h1).next h2⟩;simp only[Yq];omega
theorem aZc(l:LU)(s:BA):((aB l).toList==s.toList)=(l==s.data.toList):=by
 rw[Zf,Zf];rfl
theorem aA8(s:BA)(hs:fQ s.data.toList)(h:bM w b A n c all r va vp sz):
 Calls Tryz.prog 269 #[.pointer (some ⟨b,0,none⟩),.string s] w fun e w'=>e=.returned (.bool (aG s.data.toList r))/\Below w.heap.size w w':=by
 obtain⟨t,r',b0,off,i,j,rfl,Aa⟩:=h.tokQ;obtain⟨kk,Hn,Ae⟩:=hs.kind;have HI:=Hd (Ae t r' Aa.ok);have HB:=Hd (aZc t.s s);have HW:=Hd (xS s);obtain rfl:=Aa.a;have q0:=Aa.q0;have q1:=Aa.q1;have Cl:=Aa.lb;have Fs:=Aa.l0;have Bs:=Aa.mx;have hi:=Aa.lt;have t0:=Aa.t0;have t1:=Aa.t1;have t2:=Aa.t2;have t3:=Aa.t3;have Ha:(0:Int)<=(i:Int):=aA;have Aq:(i:Int)<(n:Int):=aA;clear h Aa Ae hs;rw[HI.o];have Ai:=Hd (HB.o.symm);rw[Ai.o];clear HI HB Ai;generalize bQ s.data.toList=wb at *;generalize aB t.s=ts at *;generalize t.k=k at *;generalize t.n=tn at *;generalize t.a=ta at *;cases Ct:(ts.toList==s.toList)with
 |false=>
  exact fK9
 |true=>
  exact fK9
abbrev zB:Ending:=.panicked [{ v:=.iface 27 (.int .i64 2),recovered:=false }]
theorem aOu(p:Value)(w:World):Calls Tryz.prog 272 #[p] w fun e w'=>e=zB/\w=w':=by
 go_in
 go_wp2;exact⟨rfl,rfl,rfl⟩
def cW{α:Type}(w:World)(b:Nat)(A:OA)(n c:Nat)(all:List Tk)(va vp:Value)(sz:Nat)(g:PR α)(V:α->Ending->Prop)(e:Ending)(w':World):Prop:=
 Below w.heap.size (bl b w) (bl b w')/\match g with
  |.ok a r=>bM w' b A n c all r va vp sz/\V a e
  |.bad r=>bM w' b A n c all r va vp sz/\e=zB
theorem cW.ok_{v:World}{P:Program}{F:Nat}{args:AV}{α:Type}{g:PR α}{V:α->Ending->Prop}{a:α}{r:List Tk}(h:Calls P F args v (cW w b A n c all va vp sz g V))(e:g=.ok a r):
 Calls P F args v fun e w'=>V a e/\bM w' b A n c all r va vp sz/\Below w.heap.size (bl b w) (bl b w'):=by
 subst e;exact h.mono fun e w' h=>⟨h.2.2,h.2.1,h.1⟩
theorem cW.bad_{v:World}{P:Program}{F:Nat}{args:AV}{α:Type}{g:PR α}{V:α->Ending->Prop}{r:List Tk}(h:Calls P F args v (cW w b A n c all va vp sz g V))(e:g=.bad r):
 Calls P F args v fun e w'=>e=zB/\bM w' b A n c all r va vp sz/\Below w.heap.size (bl b w) (bl b w'):=by
 subst e;exact h.mono fun e w' h=>⟨h.2.2,h.2.1,h.1⟩
theorem bA7{fn:Func}{p:Tmp}(h:fn.results=#[.cell p 91])(tmps:AV)(w:World)(g:Nat)(t:Tk)
 (hp:tmps.getD p undef=.pointer (some ⟨g,0,none⟩))(hg:bL 91 w g t):(results fn tmps).run Tryz.prog w=.ok (iI t) w:=
 results_cell_row h tmps w g _ _ _ _ hp hg Tryz.underlying91 rfl kZ
def yN(t:Tk):Value:=.agg #[.int .i64 t.k,.string (aB t.s),.int .i64 t.n,.int .i64 (t.a:Int)]
theorem aIt{t:Tk}{r':List Tk}(h:bM w b A n c all (t::r') va vp sz)(hk:t.k≠6):
 Calls Tryz.prog 270 #[.pointer (some ⟨b,0,none⟩)] w fun e w'=>e=.returned (yN t)/\bM w' b A n c all r' va vp sz/\Below w.heap.size (bl b w) (bl b w'):=by
 obtain⟨t1,r1,b0,off,i,j,hE,Ae⟩:=h.tokQ;injection hE with Ct Hb;subst Ct Hb;have HT:=Hd Ae;obtain rfl:=Ae.a;have q0:=Ae.q0;have q1:=Ae.q1;have Cl:=Ae.lb;have Fs:=Ae.l0;have Nh:=Ae.mx;have hi:=Ae.lt;have t0:=Ae.t0;have t1:=Ae.t1;have t2:=Ae.t2;have t3:=Ae.t3;have Fd:=Ae.add;have Ni:(0:Int)<=(i:Int):=aA;have Hc:(i:Int)<(n:Int):=aA;have hw:IntKind.i64.wrap ((i:Int)+1)=j:=by rw[Fd,IntKind.wrap_i64];have:=Ae.jn;omega
 have Ng:IntKind.i64.wrap (j-1)=i:=by rw[<-Fd,IntKind.wrap_i64];omega
 have Bv:=Ae.ne;have f1:=Ae.fz w (Yg _ _) 1;clear h Ae;go_in
 go_upto_region 2 with(fail);generalize Af:(w.setCell _ _).alloc _=w1;have Dg:(w.setCell ⟨b,1,none⟩ (.int .i64 j)).heap.size=w.heap.size:=aC;have Aq:=Hd (show bL 91 w1 w.heap.size cI by
  have h2:=bL.new 91 (w.setCell ⟨b,1,none⟩ (.int .i64 j)) cI;rw[Dg]at h2;rw[<-Af];exact h2)
 have HN:=Hd (HT.o.nx w (Yg _ _) hk);have Ac:=Hd (show Below (w.setCell ⟨b,1,none⟩ (.int .i64 j)).heap.size (w.setCell ⟨b,1,none⟩ (.int .i64 j)) w1 by
  rw[<-Af];exact(Yg _ _).alloc (Yh _) _)
 have Iz:=Hd (HN.o.below Ac.o);have KB:=Hd (show Below w.heap.size (bl b w) (bl b w1) by
  have h2:=iQ (b:=b) Ac.o;rw[Dg,aCu]at h2;exact h2)
 have Aa:∀o,w1.cell? ⟨b0,o,none⟩=w.cell? ⟨b0,o,none⟩:=fun o=>by
  have h2:=Ac.o.block b0 (by rw[Dg];exact Fs);unfold World.cell?;rw[h2,Xb _ _ _ _ (show b0≠b from Bv)]
 have t0:=(Aa _).trans t0;have t1:=(Aa _).trans t1;have t2:=(Aa _).trans t2;have t3:=(Aa _).trans t3;have q0:w1.cell? ⟨b,0,none⟩=some (.slice (some ⟨b0,off,none⟩) n c):=Iz.o.cell 0;have q1:w1.cell? ⟨b,1,none⟩=some (.int .i64 j):=by
  rw[Iz.o.cell 1,<-HT.o.je];rfl
 have r0:=Aq.o.c0;have r1:=Aq.o.c1;have r2:=Aq.o.c2;have r3:=Aq.o.c3;have fz:∀j,w1.frozen? ⟨w.heap.size,j,none⟩=false:=Aq.o.thaw;have f0:=fz 0;have f1:=fz 1;have f2:=fz 2;have f3:=fz 3;have Jx:b0≠w.heap.size:=aA;have Bm:w.heap.size≠b0:=aA;clear fz Aa Af hk;go_region;rw[show aB t.s=aZ t.s from rfl,aXf Aq.o t];have Bs:w.heap.size≠b:=aA;have Cn:=Hd (show bL 91 (w1.setRow w.heap.size (dO t)).drew w.heap.size t from Aq.o.set t);have Hw:=Hd (show bM (w1.setRow w.heap.size (dO t)).drew b (some ⟨b0,off,none⟩) n c all r' va vp sz from(Iz.o.setRow Bs (fun b1 o1 e=>by injection e with e;injection e with e1 _;omega) _).drew);have Ha:=Hd (show Below w.heap.size (bl b w) (bl b (w1.setRow w.heap.size (dO t)).drew)from bW2 (bO3 KB.o Bs (Yh _) _));generalize (w1.setRow w.heap.size (dO t)).drew=w2 at *;go_wp2_with fail;exact Zy (bA7 (p:=2) rfl _ _ w.heap.size t rfl Cn.o) rfl ⟨rfl,Hw.o,Ha.o⟩
end
end
theorem bKq:∀m∈iD,(aQ m || bQ m)=false:=aF
theorem bKr:∀m∈iD,m.length<=2:=aF
theorem bTj{l:LU}{t:Tk}{z:Nat}(h:gV l=some (t,z)):iW t/\t.s.length<=l.length+1/\t.k≠6:=by
 match l,h with
 |c::l,h=>
  rw[rP]at h;split at h
  . unfold iP at h;split at h
    . rename_i hl;injection h with h;injection h with h _;subst h;refine⟨⟨fun e=>by simp at e,fun _ hm=>?_⟩,?_,by simp⟩
      . have:=bKq _ hm
        rw[this]at hl;cases hl
      . exact bDg
    . split at h
      . injection h with h;injection h with h _;subst h;refine⟨⟨fun e=>by simp at e,fun e=>by simp at e⟩,?_,by simp⟩;exact bDg
      . cases h
  split at h
  . unfold kD at h;split at h;· cases h
    . injection h with h;injection h with h _;subst h;refine⟨⟨fun e=>by simp at e,fun e=>by simp at e⟩,?_,by simp⟩
      have:=aC9 (p:=fun c=>cC (c.toNat:Int)) (c::l)
      show(dR (c::l)).length<=_;unfold dR;omega
  split at h
  . unfold nU at h;split at h
    . rename_i hq;injection h with h;injection h with h _;subst h;refine⟨⟨fun e=>by simp at e,fun e=>by simp at e⟩,?_,by simp⟩
      have:=hq.1
      simp only[Yq];omega
    . cases h
  . unfold pM at h;cases hm:sE (c::l)with
    |none=>rw[hm]at h;cases h
    |some m=>
     rw[hm]at h;injection h with h;injection h with h _;subst h;have Aa:=(aWu hm).1;exact⟨⟨fun _=>Aa,fun e=>by simp at e⟩,by have:=bKr _ Aa;simp only[Yq];omega,by simp⟩
theorem bTk(m:Nat)(a:Nat)(l:LU)(hm:l.length<=m):(∀t∈(cK a l).1,iW t/\t.s.length<=m+1/\t.k≠6)/\(cK a l).1.length<=l.length:=by
 refine aE8 (P:=fun a l=>l.length<=m->(∀t∈(cK a l).1,iW t/\t.s.length<=m+1/\t.k≠6)/\(cK a l).1.length<=l.length) ?_ ?_ ?_ ?_ l.length a l (Yh _) hm
 . intro a _;rw[aB6];exact⟨fun t ht=>absurd ht Yl,Yh _⟩
 . intro a l h0 hb ih hl;rw[zO hb];obtain⟨h1,h2⟩:=ih bB2;exact⟨h1,by simp only[Zv]at h2;omega⟩
 . intro a l h0 hb ht hl;rw[aIm h0 hb ht];exact⟨fun t ht=>absurd ht Yl,Ys _⟩
 . intro a l t z h0 hb ht ih hl;rw[aB7 hb ht];have hz:=(xW ht).1;obtain⟨h1,h2⟩:=ih bB2;have Ky:=List.length_pos_iff.2 h0;obtain⟨g1,g2,g3⟩:=bTj ht;refine⟨fun u hu=>?_,by simp only[Yq,Zv]at h2⊢;omega⟩;rcases Yw.1 hu with rfl|hu;· exact⟨g1,by show t.s.length<=_;omega,g3⟩
   . exact h1 u hu
section
open Go.RowKit Go.Sort
section
variable {w w':World}{b:Nat}{A:OA}{n c:Nat}{all r:List Tk}{va vp:Value}{sz:Nat}
theorem mG(s:BA)(hs:fQ s.data.toList)(h:bM w b A n c all r va vp sz)(hi:aG s.data.toList r=true):
 Calls Tryz.prog 257 #[.pointer (some ⟨b,0,none⟩),.string s] w fun e w'=>e=.returned (.bool true)/\bM w' b A n c all r.tail va vp sz/\Below w.heap.size (bl b w) (bl b w'):=by
 have HI:=Hd (aA8 s hs h);rw[hi]at HI;obtain⟨t,r',rfl,Aa,hk⟩:=aBz hi;have HT:=Hd fun w1 (h1:Below w.heap.size w w1)=>aIt (h.below h1) (show t.k≠6 by omega);clear h hi Aa hk;show Calls _ _ _ _ fun e w'=>e=.returned (.bool true)/\bM w' b A n c all r' va vp sz/\Below w.heap.size (bl b w) (bl b w');go_in
 go_wp2_with fail;refine HI.o.mono ?_;rintro e w1 ⟨rfl,Ab⟩;have Ac:=Hd Ab;clear Ab;go_wp2_with fail;refine(HT.o w1 Ac.o).mono ?_;rintro e w2 ⟨rfl,Ci,Ag⟩;have Hw:=Hd Ci;have Ai:=Hd (eD (iQ Ac.o) Ag);clear Ci Ag;go_wp2_with fail;go_ret;exact⟨rfl,Hw.o,Ai.o⟩
theorem gO(s:BA)(hs:fQ s.data.toList)(h:bM w b A n c all r va vp sz)(hi:aG s.data.toList r=false):
 Calls Tryz.prog 257 #[.pointer (some ⟨b,0,none⟩),.string s] w fun e w'=>e=.returned (.bool false)/\bM w' b A n c all r va vp sz/\Below w.heap.size (bl b w) (bl b w'):=by
 have HI:=Hd (aA8 s hs h);rw[hi]at HI;have HQ:=Hd fun w1 (h1:Below w.heap.size w w1)=>h.below h1;clear h hi;go_in
 go_wp2_with fail;refine HI.o.mono ?_;rintro e w1 ⟨rfl,Ab⟩;have Ac:=Hd Ab;clear Ab;go_wp2_with fail;go_ret;exact⟨rfl,HQ.o w1 Ac.o,iQ Ac.o⟩
theorem pJ(s:BA)(hs:fQ s.data.toList)(h:bM w b A n c all r va vp sz):
 Calls Tryz.prog 261 #[.pointer (some ⟨b,0,none⟩),.string s] w (cW w b A n c all va vp sz (aR s.data.toList r) fun _ e=>e=.returned (.tuple #[])):=by
 cases hi:aG s.data.toList r with
 |true=>
  have HT:=Hd (mG s hs h hi);rw[show aR s.data.toList r=.ok () r.tail by simp[aR,hi]];clear h hi;go_in
  go_wp2_with fail;refine HT.o.mono ?_;rintro e w1 ⟨rfl,Bz,Ab⟩;have Iz:=Hd Bz;have Ac:=Hd Ab;clear Bz Ab;go_wp2_with fail;go_end0
  exact⟨Ac.o,Iz.o,rfl⟩
 |false=>
  have HT:=Hd (gO s hs h hi);rw[show aR s.data.toList r=.bad r by simp[aR,hi]];clear h hi;go_in
  go_wp2_with fail;refine HT.o.mono ?_;rintro e w1 ⟨rfl,Bz,Ab⟩;have Iz:=Hd Bz;have Ac:=Hd Ab;clear Bz Ab;go_wp2_with fail;refine(aOu _ _).mono ?_;rintro e w2 ⟨rfl,rfl⟩;go_wp2_with fail;exact⟨rfl,Ac.o,Iz.o,rfl⟩
theorem aNd(h:bM w b A n c all r va vp sz):
 Calls Tryz.prog 271 #[.pointer (some ⟨b,0,none⟩)] w fun e w'=>e=.returned (.bool (oM r))/\Below w.heap.size w w':=by
 obtain⟨t,r',b0,off,i,j,rfl,Aa⟩:=h.tokQ;have HW:=Hd (show ∀w1,Calls Tryz.prog 138 #[.string (aB t.s)] w1 fun e w'=>e=.returned (.bool (bQ t.s))/\w1=w' from xS (aZ t.s));have HI:=Hd (show oM (t::r')=(t.k==1 && !bQ t.s)from rfl);obtain rfl:=Aa.a;have q0:=Aa.q0;have q1:=Aa.q1;have Cl:=Aa.lb;have Bs:=Aa.l0;have Aq:=Aa.mx;have hi:=Aa.lt;have t0:=Aa.t0;have t1:=Aa.t1;have t2:=Aa.t2;have t3:=Aa.t3;have Ct:(0:Int)<=(i:Int):=aA;have Ae:(i:Int)<(n:Int):=aA;clear h Aa;rw[HI.o];clear HI;generalize bQ t.s=wb at *;generalize aB t.s=ts at *;generalize t.k=k at *;generalize t.n=tn at *;generalize t.a=ta at *;cases h1:(k==1)with
 |false=>
  clear HW;go_in
  go_upto_region 1 with(fail);go_region;exact bDv
 |true=>
  go_in
  go_upto_region 1 with(fail);go_region;go_wp2_with fail;refine(HW.o _).mono ?_;rintro e w1 ⟨rfl,rfl⟩;exact bDv
theorem bW5(k s n a:Value)(w:World):(Instr.field 91 (.agg #[k,s,n,a]) 1).run Tryz.prog w=.ok s w:=by
 exact aP5
theorem wI(h:bM w b A n c all r va vp sz):
 Calls Tryz.prog 258 #[.pointer (some ⟨b,0,none⟩)] w (cW w b A n c all va vp sz (bT r) fun s e=>e=.returned (.string (aB s))):=by
 have HN:=Hd (aNd h);obtain⟨t,r',e⟩:=h.fin.cons_;subst e;have HQ:=Hd fun w1 (h1:Below w.heap.size w w1)=>h.below h1;have HI:=Hd (show oM (t::r')=(t.k==1 && !bQ t.s)from rfl);have HG:=Hd (show bT (t::r')=if t.k=1/\bQ t.s=false then .ok t.s r' else .bad (t::r')from rfl);clear h;cases hi:oM (t::r')with
 |false=>
  rw [hi] at HN HI;have HE:=Hd (show bT (t::r')=.bad (t::r') by
   rw[HG.o,if_neg];rintro ⟨h1,h2⟩
   have:=HI.o
   simp[h1,h2]at this)
  rw[HE.o];clear HE HG HI hi;exact bHr
 |true=>
  rw[hi]at HN HI;have hk:t.k=1/\bQ t.s=false:=by
   have:=HI.o.symm
   simpa using this
  have HE:=Hd (show bT (t::r')=.ok t.s r' by rw[HG.o,if_pos hk]);have HT:=Hd fun w1 (h1:Below w.heap.size w w1)=>aIt (HQ.o w1 h1) (show t.k≠6 by omega);rw[HE.o];clear HE HG HI hi hk;exact bG5
end
end
section
open Go.RowKit Go.Sort
def sA(r:List Tk):Bool:=uX r==2 || (aG eF r || aG dY r)
theorem aNe:fQ eF:=.inl aF
theorem aMr:fQ dY:=.inl aF
theorem aZd{t:Tk}{r':List Tk}(h:sA (t::r')=true):fO (t::r')=.ok t.s r'/\t.k≠6:=by
 simp only[sA,uX,Bool.or_eq_true,beq_iff_eq]at h;by_cases h1:aG eF (t::r')=true
 . obtain⟨t1,r1,e,hs,hk⟩:=aBz h1;injection e with e1 e2;subst e1 e2;exact⟨by simp only[fO,h1,if_true,hs,Xn],by omega⟩
 . by_cases h2:aG dY (t::r')=true
   . obtain⟨t1,r1,e,hs,hk⟩:=aBz h2;injection e with e1 e2;subst e1 e2;exact⟨by simp only[fO,h1,h2,if_true,if_false,hs,Xn,Zb],by omega⟩
   . have hk:t.k=2:=by
      rcases h with h|h|h;· exact h
      . exact absurd h h1
      . exact absurd h h2
     exact⟨by simp only[fO,h1,h2,hk,if_true,if_false,Zb],by omega⟩
theorem cAm{t:Tk}{r':List Tk}(h:sA (t::r')=false):fO (t::r')=.bad (t::r'):=by
 simp only[sA,uX,Bool.or_eq_false_iff,Xf]at h;simp only[fO,h.1,h.2.1,h.2.2,if_false,Zb]
section
variable {w w':World}{b:Nat}{A:OA}{n c:Nat}{all r:List Tk}{va vp:Value}{sz:Nat}
theorem aAe(h:bM w b A n c all r va vp sz):
 Calls Tryz.prog 259 #[.pointer (some ⟨b,0,none⟩)] w fun e w'=>e=.returned (.bool (sA r))/\Below w.heap.size w w':=by
 have HQ:=Hd fun w1 (h1:Below w.heap.size w w1)=>h.below h1;have HT:=Hd fun d os=>Zl (aA8 ⟨#[116,114,117,101]⟩ aNe (HQ.o (grow (redrawn w d) os) (Zx w d os)));have HF:=Hd fun d os=>Zl (aA8 ⟨#[102,97,108,115,101]⟩ aMr (HQ.o (grow (redrawn w d) os) (Zx w d os)));rw[show(⟨#[116,114,117,101]⟩:BA).data.toList=eF from rfl]at HT;rw[show(⟨#[102,97,108,115,101]⟩:BA).data.toList=dY from rfl]at HF;obtain⟨t,r',b0,off,i,j,rfl,Aa⟩:=h.tokQ;have HI:=Hd (show sA (t::r')=(t.k==2 || (aG eF (t::r') || aG dY (t::r')))from rfl);obtain rfl:=Aa.a;have q0:=Aa.q0;have q1:=Aa.q1;have Cl:=Aa.lb;have Bs:=Aa.l0;have Aq:=Aa.mx;have hi:=Aa.lt;have t0:=Aa.t0;have Ct:(0:Int)<=(i:Int):=aA;have Ae:(i:Int)<(n:Int):=aA;clear h Aa HQ;rw[HI.o];clear HI;generalize aG eF (t::r')=bt at *;generalize aG dY (t::r')=bf at *;generalize t.k=k at *;have l0:=fun d os=>Zw q0 d os;have l1:=fun d os=>Zw q1 d os;have l2:=fun d os=>Zw t0 d os;clear q0 q1 t0;cases h1:(k==2)with
 |true=>
  clear HT HF;go_in
  go_upto_region 1 with(fail);refine Xe aE aE ?_;repeat (quiet_step (fail))
  refine Xk ?_;intro _ Ch;obtain⟨⟨dq,Bj⟩,Az⟩:=Ch;subst Az;have HB:=Hd (Zx w dq Bj);clear l0 l1 l2;exact aPt
 |false=>
  have cT:=HT.o;clear HT;cases bt with
  |true=>
   clear HF;go_in
   go_upto_region 1 with(fail);refine Xe aE aE ?_;repeat (quiet_step (with_reducible exact cT _ _))
   refine Xk ?_;intro _ Ch;obtain⟨⟨dq,Bj⟩,Az⟩:=Ch;subst Az;have HB:=Hd (Zx w dq Bj);clear l0 l1 l2 cT;exact aPt
  |false=>
   have cF:=HF.o;clear HF;go_in
   go_upto_region 1 with(fail);refine Xe aE aE ?_;repeat (quiet_step (first|(with_reducible exact cT _ _)|(with_reducible exact cF _ _)))
   refine Xk ?_;intro _ Ch;obtain⟨⟨dq,Bj⟩,Az⟩:=Ch;subst Az;have HB:=Hd (Zx w dq Bj);clear l0 l1 l2 cT cF;exact aPt
theorem aDg(h:bM w b A n c all r va vp sz):
 Calls Tryz.prog 260 #[.pointer (some ⟨b,0,none⟩)] w (cW w b A n c all va vp sz (fO r) fun s e=>e=.returned (.string (aB s))):=by
 have HN:=Hd (aAe h);obtain⟨t,r',e⟩:=h.fin.cons_;subst e;have HQ:=Hd fun w1 (h1:Below w.heap.size w w1)=>h.below h1;clear h;cases hi:sA (t::r')with
 |false=>
  rw[hi]at HN;have HE:=Hd (cAm hi);rw[HE.o];clear HE hi;exact bHr
 |true=>
  rw[hi]at HN;have HE:=Hd (aZd hi);have HT:=Hd fun w1 (h1:Below w.heap.size w w1)=>aIt (HQ.o w1 h1) HE.o.2;rw[HE.o.1];clear HE hi;exact bG5
theorem aZe:fQ iE:=.inl aF
theorem pK:fQ [40]:=.inr aF
theorem aCv:fQ [41]:=.inr aF
def aQk(z:List UInt8 × List UInt8)(e:Ending):Prop:=e=.returned (.tuple #[.string (aB z.1),.string (aB z.2)])
theorem bMg(h1:aG iE r=false)(h2:sA r=false):dU r=(bT r).bind fun n r=>.ok (n,eF) r:=by
 simp only[sA,Bool.or_eq_false_iff,Xf]at h2;simp only[dU,h1,h2.1,h2.2.1,h2.2.2,if_false,Zb,or_self,false_or]
theorem bTl(h1:aG iE r=false)(h2:sA r=true):dU r=(fO r).bind fun a r=>(aR [40] r).bind fun _ r=>(bT r).bind fun n r=>(aR [41] r).bind fun _ r=>.ok (n,a) r:=by
 simp only[sA,Bool.or_eq_true,beq_iff_eq]at h2;simp only[dU,h1,if_false,Zb];rw[if_pos h2]
theorem aOv(h:bM w b A n c all r va vp sz):
 Calls Tryz.prog 244 #[.pointer (some ⟨b,0,none⟩)] w (cW w b A n c all va vp sz (dU r) aQk):=by
 cases h1:aG iE r with
 |true=>
  have HT:=Hd (mG ⟨#[110,111,116]⟩ aZe h h1);have HE:=Hd (show dU r=(bT r.tail).bind fun n r=>.ok (n,dY) r by simp only[dU,h1,if_true]);rw[HE.o];clear HE h1 h;generalize r.tail=r1 at *;cases hn:bT r1 with
  |ok s r2=>
   simp only[PR.bind_ok];go_in
   go_wp2_with fail;refine HT.o.mono ?_;rintro e w1 ⟨rfl,Bz,Ab⟩;have HN:=Hd (cW.ok_ (wI Bz) hn);have Ac:=Hd Ab;clear Bz Ab hn;go_wp2_with fail;refine HN.o.mono ?_;rintro e w2 ⟨rfl,Ci,Ag⟩;have Hw:=Hd Ci;have Ai:=Hd (eD Ac.o Ag);clear Ci Ag;go_wp2_with fail;go_ret2;exact⟨Ai.o,Hw.o,rfl⟩
  |bad r2=>
   simp only[PR.bind_bad];go_in
   go_wp2_with fail;refine HT.o.mono ?_;rintro e w1 ⟨rfl,Bz,Ab⟩;have HN:=Hd (cW.bad_ (wI Bz) hn);have Ac:=Hd Ab;clear Bz Ab hn;go_wp2_with fail;refine HN.o.mono ?_;rintro e w2 ⟨rfl,Ci,Ag⟩;have Hw:=Hd Ci;have Ai:=Hd (eD Ac.o Ag);clear Ci Ag;go_wp2_with fail;exact⟨rfl,Ai.o,Hw.o,rfl⟩
 |false=>
  have HT:=Hd (gO ⟨#[110,111,116]⟩ aZe h h1);cases h2:sA r with
  |false=>
   have HE:=Hd (bMg h1 h2);rw[HE.o];clear HE h1 h;cases hn:bT r with
   |ok s r2=>
    simp only[PR.bind_ok];go_in
    go_wp2_with fail;refine HT.o.mono ?_;rintro e w1 ⟨rfl,Bz,Ab⟩;have HA:=Hd (h2 ▸ aAe Bz);have HN:=Hd fun w2 (h:Below w1.heap.size w1 w2)=>cW.ok_ (wI (Bz.below h)) hn;have Ac:=Hd Ab;clear Bz Ab hn h2;go_wp2_with fail;refine HA.o.mono ?_;rintro e w2 ⟨rfl,Ag⟩;have Ai:=Hd (eD Ac.o (iQ Ag));have Di:=Hd (HN.o w2 Ag);clear Ag HN;go_wp2_with fail;refine Di.o.mono ?_;rintro e w3 ⟨rfl,Aa,Ak⟩;have Ct:=Hd Aa;have Aj:=Hd (eD Ai.o Ak);clear Aa Ak;go_wp2_with fail;go_ret2;exact⟨Aj.o,Ct.o,rfl⟩
   |bad r2=>
    simp only[PR.bind_bad];go_in
    go_wp2_with fail;refine HT.o.mono ?_;rintro e w1 ⟨rfl,Bz,Ab⟩;have HA:=Hd (h2 ▸ aAe Bz);have HN:=Hd fun w2 (h:Below w1.heap.size w1 w2)=>cW.bad_ (wI (Bz.below h)) hn;have Ac:=Hd Ab;clear Bz Ab hn h2;go_wp2_with fail;refine HA.o.mono ?_;rintro e w2 ⟨rfl,Ag⟩;have Ai:=Hd (eD Ac.o (iQ Ag));have Di:=Hd (HN.o w2 Ag);clear Ag HN;go_wp2_with fail;refine Di.o.mono ?_;rintro e w3 ⟨rfl,Aa,Ak⟩;have Ct:=Hd Aa;have Aj:=Hd (eD Ai.o Ak);clear Aa Ak;go_wp2_with fail;exact⟨rfl,Aj.o,Ct.o,rfl⟩
  |true=>
   have HE:=Hd (bTl h1 h2);rw[HE.o];clear HE h1 h;obtain⟨s1,q1,ha⟩:∃s q,fO r=.ok s q:=by
    cases r with
    |nil=>exact absurd h2 aF
    |cons t r'=>exact⟨_,_,(aZd h2).1⟩
   rw[ha];simp only[PR.bind_ok];cases hp:aR [40] q1 with
   |bad q2=>
    simp only[PR.bind_bad];go_in
    go_wp2_with fail;refine HT.o.mono ?_;rintro e w1 ⟨rfl,Bz,Ab⟩;have HA:=Hd (h2 ▸ aAe Bz);have HN:=Hd fun w2 (h:Below w1.heap.size w1 w2)=>cW.ok_ (aDg (Bz.below h)) ha;have Ac:=Hd Ab;clear Bz Ab ha h2;go_wp2_with fail;refine HA.o.mono ?_;rintro e w2 ⟨rfl,Ag⟩;have Ai:=Hd (eD Ac.o (iQ Ag));have Di:=Hd (HN.o w2 Ag);clear Ag HN;go_wp2_with fail;refine Di.o.mono ?_;rintro e w3 ⟨rfl,Aa,Ak⟩;have HP:=Hd (cW.bad_ (pJ ⟨#[40]⟩ pK Aa) hp);have Aj:=Hd (eD Ai.o Ak);clear Aa Ak hp;go_wp2_with fail;refine HP.o.mono ?_;rintro e w4 ⟨rfl,Ae,Aq⟩;have Ha:=Hd Ae;have Bd:=Hd (eD Aj.o Aq);clear Ae Aq;go_wp2_with fail;exact⟨rfl,Bd.o,Ha.o,rfl⟩
   |ok u q2=>
    simp only[PR.bind_ok];cases hn:bT q2 with
    |bad q3=>
     simp only[PR.bind_bad];go_in
     go_wp2_with fail;refine HT.o.mono ?_;rintro e w1 ⟨rfl,Bz,Ab⟩;have HA:=Hd (h2 ▸ aAe Bz);have HN:=Hd fun w2 (h:Below w1.heap.size w1 w2)=>cW.ok_ (aDg (Bz.below h)) ha;have Ac:=Hd Ab;clear Bz Ab ha h2;go_wp2_with fail;refine HA.o.mono ?_;rintro e w2 ⟨rfl,Ag⟩;have Ai:=Hd (eD Ac.o (iQ Ag));have Di:=Hd (HN.o w2 Ag);clear Ag HN;go_wp2_with fail;refine Di.o.mono ?_;rintro e w3 ⟨rfl,Aa,Ak⟩;have HP:=Hd (cW.ok_ (pJ ⟨#[40]⟩ pK Aa) hp);have Aj:=Hd (eD Ai.o Ak);clear Aa Ak hp;go_wp2_with fail;refine HP.o.mono ?_;rintro e w4 ⟨rfl,Ae,Aq⟩;have HM:=Hd (cW.bad_ (wI Ae) hn);have Bd:=Hd (eD Aj.o Aq);clear Ae Aq hn;go_wp2_with fail;refine HM.o.mono ?_;rintro e w5 ⟨rfl,Bs,Cs⟩;have Fs:=Hd Bs;have Bl:=Hd (eD Bd.o Cs);clear Bs Cs;go_wp2_with fail;exact⟨rfl,Bl.o,Fs.o,rfl⟩
    |ok s2 q3=>
     simp only[PR.bind_ok];cases hz:aR [41] q3 with
     |bad q4=>
      simp only[PR.bind_bad];go_in
      go_wp2_with fail;refine HT.o.mono ?_;rintro e w1 ⟨rfl,Bz,Ab⟩;have HA:=Hd (h2 ▸ aAe Bz);have HN:=Hd fun w2 (h:Below w1.heap.size w1 w2)=>cW.ok_ (aDg (Bz.below h)) ha;have Ac:=Hd Ab;clear Bz Ab ha h2;go_wp2_with fail;refine HA.o.mono ?_;rintro e w2 ⟨rfl,Ag⟩;have Ai:=Hd (eD Ac.o (iQ Ag));have Di:=Hd (HN.o w2 Ag);clear Ag HN;go_wp2_with fail;refine Di.o.mono ?_;rintro e w3 ⟨rfl,Aa,Ak⟩;have HP:=Hd (cW.ok_ (pJ ⟨#[40]⟩ pK Aa) hp);have Aj:=Hd (eD Ai.o Ak);clear Aa Ak hp;go_wp2_with fail;refine HP.o.mono ?_;rintro e w4 ⟨rfl,Ae,Aq⟩;have HM:=Hd (cW.ok_ (wI Ae) hn);have Bd:=Hd (eD Aj.o Aq);clear Ae Aq hn;go_wp2_with fail;refine HM.o.mono ?_;rintro e w5 ⟨rfl,Bs,Cs⟩;have HZ:=Hd (cW.bad_ (pJ ⟨#[41]⟩ aCv Bs) hz);have Bl:=Hd (eD Bd.o Cs);clear Bs Cs hz;go_wp2_with fail;refine HZ.o.mono ?_;rintro e w6 ⟨rfl,Gp,Bo⟩;have Kt:=Hd Gp;have Db:=Hd (eD Bl.o Bo);clear Gp Bo;go_wp2_with fail;exact⟨rfl,Db.o,Kt.o,rfl⟩
     |ok u2 q4=>
      simp only[PR.bind_ok];go_in
      go_wp2_with fail;refine HT.o.mono ?_;rintro e w1 ⟨rfl,Bz,Ab⟩;have HA:=Hd (h2 ▸ aAe Bz);have HN:=Hd fun w2 (h:Below w1.heap.size w1 w2)=>cW.ok_ (aDg (Bz.below h)) ha;have Ac:=Hd Ab;clear Bz Ab ha h2;go_wp2_with fail;refine HA.o.mono ?_;rintro e w2 ⟨rfl,Ag⟩;have Ai:=Hd (eD Ac.o (iQ Ag));have Di:=Hd (HN.o w2 Ag);clear Ag HN;go_wp2_with fail;refine Di.o.mono ?_;rintro e w3 ⟨rfl,Aa,Ak⟩;have HP:=Hd (cW.ok_ (pJ ⟨#[40]⟩ pK Aa) hp);have Aj:=Hd (eD Ai.o Ak);clear Aa Ak hp;go_wp2_with fail;refine HP.o.mono ?_;rintro e w4 ⟨rfl,Ae,Aq⟩;have HM:=Hd (cW.ok_ (wI Ae) hn);have Bd:=Hd (eD Aj.o Aq);clear Ae Aq hn;go_wp2_with fail;refine HM.o.mono ?_;rintro e w5 ⟨rfl,Bs,Cs⟩;have HZ:=Hd (cW.ok_ (pJ ⟨#[41]⟩ aCv Bs) hz);have Bl:=Hd (eD Bd.o Cs);clear Bs Cs hz;go_wp2_with fail;refine HZ.o.mono ?_;rintro e w6 ⟨rfl,Gp,Bo⟩;have Kt:=Hd Gp;have Db:=Hd (eD Bl.o Bo);clear Gp Bo;go_wp2_with fail;go_ret2;exact⟨Db.o,Kt.o,rfl⟩
end
end
section
open Go.RowKit Go.Sort
def qS(zs:List (Int × ByteArray)):Prop:=zs.length<=100/\∀z∈zs,z.1≠0/\fQ z.2.data.toList/\wN z.1=z.2
def opR(Aa:List (Int × List UInt8))(r:List Tk):List Tk:=if cR Aa r=0 then r else r.tail
theorem bTm{zs:List (Int × ByteArray)}{k:Nat}(h:k<zs.length):zs[k]?.getD default∈zs:=by
 exact aJz
section
variable {w w':World}{b:Nat}{A:OA}{n c:Nat}{all r:List Tk}{va vp:Value}{sz:Nat}
theorem aRm(zs:List (Int × ByteArray))(g c1:Nat)(h:bM w b A n c all r va vp sz)(hz:qS zs)(hs:∀i,i<zs.length->(bl b w).cell? ⟨g,i,none⟩=some (.int .i64 (zs[i]?.getD default).1)):
 Calls Tryz.prog 282 #[.pointer (some ⟨b,0,none⟩),.slice (some ⟨g,0,none⟩) zs.length c1] w fun e w'=>
  e=.returned (.int .i64 (cR (gY zs) r))/\bM w' b A n c all (opR (gY zs) r) va vp sz/\Below w.heap.size (bl b w) (bl b w'):=by
 have HQ:=Hd h;have HS:=Hd fun w1 (h1:Below w.heap.size (bl b w) (bl b w1)) i (hi:i<zs.length)=>rU ((h1.cell (by have:=Yi _ _ (hs i hi);rwa[fC]at this)).trans (hs i hi));have HZ:=Hd fun i (hi:i<zs.length)=>hz.2 _ (bTm hi);have Ni:=Hd fun(hx:∀i,i<zs.length->aG (zs[i]?.getD default).2.data.toList r=false)=>aVo (r:=r) zs hx;have Ng:=Hd fun k hk hx hy=>aT0 (r:=r) zs k hk hx hy;have Nj:=hz.1;generalize hL:zs.length=L at *;clear h hs hz;go_in
 go_wp2_with fail;go_loopw [9] (fun i wr=>∃k:Nat,k<=L/\i=.int .i64 k/\bM wr b A n c all r va vp sz/\Below w.heap.size (bl b w) (bl b wr)/\(∀j,j<k->aG (zs[j]?.getD default).2.data.toList r=false)) (fun i _=>L-(intOf i).toNat)
 case atStart=>exact⟨0,Ys _,rfl,HQ.o,Yg _ _,fun j hj=>absurd hj aA⟩
 case round=>
  obtain⟨k,hk,rfl,hP,hB,Ha⟩:=hrel;have Ct:=Hd hP;have Ae:=Hd hB;have Ey:=Hd Ha;clear hP hB Ha;by_cases Ah:k<L
  . have s0:=HS.o wr Ae.o k Ah;obtain⟨Dy,Aa,Fs⟩:=HZ.o k Ah;have Aq:=Hd (bZ0 (zs[k]?.getD default).1);rw[Fs]at Aq;have Nh:=Hd Dy;cases hb:aG (zs[k]?.getD default).2.data.toList r with
    |true=>
     have Cg:=Hd (mG (zs[k]?.getD default).2 Aa Ct.o hb);have HE:=Hd (Ng.o k Ah Ey.o hb);clear hb Aa Fs Dy;generalize (zs[k]?.getD default).2=sk at *;generalize (zs[k]?.getD default).1=ok at *;go_wp2_with fail;refine(Aq.o wr).mono ?_;rintro e w2 ⟨rfl,rfl⟩;go_wp2_with fail;refine Cg.o.mono ?_;rintro e w2 ⟨rfl,Ci,Ag⟩;have Hw:=Hd Ci;have Ai:=Hd (eD Ae.o Ag);clear Ci Ag s0;go_wp2_with fail;go_ret;unfold opR;rw[HE.o,if_neg Nh.o];exact⟨rfl,Hw.o,Ai.o⟩
    |false=>
     have Cg:=Hd (gO (zs[k]?.getD default).2 Aa Ct.o hb);have Cd:=Hd hb;clear hb Aa Fs Dy;generalize Hb:(zs[k]?.getD default).2=sk at *;have Bs:=Hd Hb;clear Hb;generalize (zs[k]?.getD default).1=ok at *;go_wp2_with fail;refine(Aq.o wr).mono ?_;rintro e w2 ⟨rfl,rfl⟩;go_wp2_with fail;refine Cg.o.mono ?_;rintro e w2 ⟨rfl,Ci,Ag⟩;have Hw:=Hd Ci;have Ai:=Hd (eD Ae.o Ag);clear Ci Ag s0;go_wp2_with fail;go_roundw;case rel=>
      refine⟨k+1,by omega,by go_num,Hw.o,Ai.o,fun j hj=>?_⟩;by_cases Jx:j<k;· exact Ey.o j Jx
      . have:j=k:=by omega
        subst this;rw[Bs.o];exact Cd.o
     case measure=>simp[intOf];omega
  . have Hc:k=L:=by omega
    subst Hc;have HE:=Hd (Ni.o fun i hi=>Ey.o i hi);go_wp2_with fail;go_ret;unfold opR;rw[HE.o,if_pos rfl];exact⟨rfl,Ct.o,Ae.o⟩
end
end
section
open Go.RowKit Go.Sort
def fR(L:LN)(w:World):World:={ w with heap:=w.heap.mapIdx fun i o=>if i∈L then .cells #[] 0 else o }
theorem xM{L:LN}{w:World}:(fR L w).heap.size=w.heap.size:=by simp[fR]
theorem rR{L:LN}{w:World}{p:Addr}(h:p.block∉L):(fR L w).cell? p=w.cell? p:=by
 unfold World.cell? fR;simp only[Array.getElem?_mapIdx];cases w.heap[p.block]? with
 |none=>rfl
 |some o=>simp[h]
theorem zV{L:LN}{w:World}{p:Addr}{v:Value}(h:(fR L w).cell? p=some v):w.cell? p=some v/\p.block∉L:=by
 by_cases hp:p.block∈L
 . unfold World.cell? fR at h;exact aRh
 . exact⟨by rwa[rR hp]at h,hp⟩
theorem eI.up{w w':World}{A:OA}{n:Nat}{ts:List Tk}(h:eI w A n ts)(hs:w.heap.size<=w'.heap.size)(hk:∀p v,w.cell? p=some v->w'.cell? p=some v):eI w' A n ts:=
 ⟨h.1,h.2.1,fun hn=>by
  obtain⟨b,off,e,hb,hc⟩:=h.2.2 hn;exact⟨b,off,e,by omega,fun i hi=>⟨hk _ _ (hc i hi).1,hk _ _ (hc i hi).2.1,hk _ _ (hc i hi).2.2.1,hk _ _ (hc i hi).2.2.2⟩⟩⟩
theorem sB{w w':World}(hs:w.heap.size<=w'.heap.size)(hk:∀p v,w.cell? p=some v->w'.cell? p=some v):∀{l:List Ex}{cs:LV},jJ w l cs->jJ w' l cs
 |[],cs,h=>h
 |x::l,cs,h=>by
  obtain⟨A,ca,B,cb,Aa,rfl,h1,h2⟩:=h;exact⟨A,ca,B,cb,Aa,rfl,oP hs hk x A B h1,sB hs hk h2⟩
structure Tn (S L L':LN)(w w':World):Prop where
 os:w'.os=w.os
 tape:w'.tape=w.tape
 output:w'.output=w.output
 size:w.heap.size<=w'.heap.size
 block:∀k,k<w.heap.size->k∉S->w'.heap[k]?=w.heap[k]?
 live:∀k∈L',k∈L\/w.heap.size<=k
 stay:∀k∈L,k∉S->k∈L'
section
variable {S S1 L L1 L2:LN}{w w1 w2:World}
theorem Tn.refl(S L:LN)(w:World):Tn S L L w w:=⟨rfl,rfl,rfl,Yh _,fun _ _ _=>rfl,fun _ h=>.inl h,fun _ h _=>h⟩
theorem Tn.trans(h:Tn S L L1 w w1)(k:Tn S1 L1 L2 w1 w2)(hL:∀k∈L,k<w.heap.size)(hS:∀k∈S1,k∈S\/w.heap.size<=k):Tn S L L2 w w2 where
 os:=k.os.trans h.os
 tape:=k.tape.trans h.tape
 output:=k.output.trans h.output
 size:=Yr h.size k.size
 block:=fun j hj hn=>(k.block j (Yt hj h.size) (fun hs=>(hS j hs).elim hn fun h2=>by omega)).trans (h.block j hj hn)
 live:=fun j hj=>by
  rcases k.live j hj with h1|h1;· exact h.live j h1
  . exact .inr (Yr h.size h1)
 stay:=fun j hj hn=>k.stay j (h.stay j hj hn) fun hs=>by
  rcases hS j hs with hs|hs;· exact hn hs
  . have:=hL j hj;omega
theorem Tn.mono(h:Tn S L L1 w w1)(hS:∀k∈S,k∈S1):Tn S1 L L1 w w1:=
 ⟨h.os,h.tape,h.output,h.size,fun k hk hn=>h.block k hk fun h=>hn (hS k h),h.live,fun k hk hn=>h.stay k hk fun h=>hn (hS k h)⟩
theorem Tn.of_below(h:Below w.heap.size w w1):Tn S L L w w1:=⟨h.os,h.tape,h.output,h.size,fun k hk _=>h.block k hk,fun _ h=>.inl h,fun _ h _=>h⟩
theorem Tn.of_kb{b:Nat}(h:Below w.heap.size (bl b w) (bl b w1))(hb:b∈S):Tn S L L w w1:=
 ⟨h.os,h.tape,h.output,wA h,fun k hk hn=>by
  have Aa:k≠b:=fun e=>hn (e ▸ hb);have h1:=h.block k hk;rwa[dH Aa,dH Aa]at h1,fun _ h=>.inl h,fun _ h _=>h⟩
theorem Tn.up(h:Tn S L L1 w w1)(hS:∀k∈S,k∈L)(p:Addr)(v:Value)(hv:(fR L w).cell? p=some v):(fR L1 w1).cell? p=some v:=by
 obtain⟨h1,h2⟩:=zV hv;have Ah:p.block<w.heap.size:=Yi w p h1;rw[rR fun hL=>(h.live _ hL).elim h2 fun h3=>by omega];unfold World.cell? at h1⊢;rw[h.block _ Ah fun hs=>h2 (hS _ hs)];exact h1
theorem Tn.ups(h:Tn S L L1 w w1):(fR L w).heap.size<=(fR L1 w1).heap.size:=by rw[xM,xM];exact h.size
theorem Tn.below(h:Tn S L L1 w w1){B:Nat}(hB:B<=w.heap.size)(hS:∀k∈S,B<=k):Below B w w1:=
 ⟨h.os,h.tape,h.output,h.size,fun k hk=>h.block k (Yt hk hB) fun hs=>by have:=hS k hs;omega⟩
theorem Tn.use(h:Tn S L L1 w w1){g:Nat}(hg:w.heap.size<=g):Tn S L (g::L1) w w1:=
 ⟨h.os,h.tape,h.output,h.size,h.block,fun k hk=>by
  rcases Yw.1 hk with rfl|hk;· exact .inr hg
  . exact h.live k hk,fun k hk hn=>Zi _ (h.stay k hk hn)⟩
end
abbrev rp (b:Nat):Value:=.pointer (some ⟨b,0,none⟩)
structure aP (w:World)(b:Nat)(A:OA)(n c:Nat)(all r:List Tk)(va:Value)(st:LV)(vp:Value)(ps:List Ex)(sz:Nat)(L:LN):Prop where
 row:w.heap[b]?=some (.cells (nE (.slice A n c) ((n-r.length:Nat):Int) va vp sz) 257)
 rd:eI (fR L w) A n all
 len:r.length<=n
 pre:all.drop (n-r.length)=r
 fin:aU r
 tks:∀t∈all,iW t
 oa:w.ownsRow 0 1 1 va st.length st.reverse
 op:∃cs,w.ownsRow 0 79 6 vp ps.length cs/\jJ (fR L w) ps cs
 lb:b∈L
 la:∀k,va.ownBlock=some k->k∈L
 lp:∀k,vp.ownBlock=some k->k∈L
 lv:∀k∈L,k<w.heap.size
theorem aQl{L:LN}{w:World}{b:Nat}(hb:b∈L)(p:Addr)(v:Value)(h:(fR L w).cell? p=some v):(bl b w).cell? p=some v:=by
 obtain⟨h1,h2⟩:=zV h;rw[aIr fun e=>h2 (e ▸ hb)];exact h1
theorem jM{w w':World}{base:Nat}{e:TypeId}{size:Nat}{v:Value}{n:Nat}{xs:LV}(h:w.ownsRow base e size v n xs)(hb:∀k,v.ownBlock=some k->w'.heap[k]?=w.heap[k]?):w'.ownsRow base e size v n xs:=by
 exact bCc
theorem oQ{w:World}{base:Nat}{e:TypeId}{size:Nat}{v:Value}{n:Nat}{xs:LV}(h:w.ownsRow base e size v n xs){b:Nat}{cs:AV}{T:TypeId}(hb:w.heap[b]?=some (.cells cs T))(hT:e≠T):v.ownBlock≠some b:=by
 rcases h.2 with⟨rfl,_⟩|⟨g,cap,cur,rfl,hg,hh,r⟩;· intro h;cases h
 . intro h;simp only[Value.ownBlock,Option.some.injEq]at h;subst h;rw[hh]at hb;injection hb with hb;injection hb with _ hb;exact hT hb
theorem aAf{w:World}{base Aa:Nat}{e e':TypeId}{size Ae:Nat}{v v':Value}{n n':Nat}{xs Bs:LV}(h:w.ownsRow base e size v n xs)(h':w.ownsRow Aa e' Ae v' n' Bs)(hT:e≠e'){k:Nat}(hk:v.ownBlock=some k):v'.ownBlock≠some k:=by
 rcases h'.2 with⟨rfl,_⟩|⟨g,cap,cur,rfl,hg,hh,r⟩;· intro h;cases h
 . intro Aq;simp only[Value.ownBlock,Option.some.injEq]at Aq;subst Aq;exact oQ h hh hT hk
section
variable {w w':World}{b:Nat}{A:OA}{n c:Nat}{all r r':List Tk}{va vp:Value}{st:LV}{ps:List Ex}{sz:Nat}{L L' S:LN}
theorem aP.lt(h:aP w b A n c all r va st vp ps sz L):b<w.heap.size:=(Ym.1 h.row).1
theorem aP.q(h:aP w b A n c all r va st vp ps sz L):bM w b A n c all r va vp sz:=
 ⟨h.row,h.rd.up (by rw[xM,fC];exact Yh _) fun p v=>aQl h.lb p v,h.len,h.pre,h.fin,h.tks⟩
theorem aP.cell(h:aP w b A n c all r va st vp ps sz L)(j:Nat):w.cell? ⟨b,j,none⟩=(nE (.slice A n c) ((n-r.length:Nat):Int) va vp sz)[j]?:=h.q.cell j
theorem aP.va_ne(h:aP w b A n c all r va st vp ps sz L):va.ownBlock≠some b:=oQ h.oa h.row aF
theorem aP.vp_ne(h:aP w b A n c all r va st vp ps sz L):vp.ownBlock≠some b:=by
 obtain⟨cs,h1,h2⟩:=h.op;exact oQ h1 h.row aF
theorem aP.vap(h:aP w b A n c all r va st vp ps sz L){k:Nat}(hk:va.ownBlock=some k):vp.ownBlock≠some k:=by
 obtain⟨cs,h1,h2⟩:=h.op;exact aAf h.oa h1 aF hk
theorem aP.move(h:aP w b A n c all r va st vp ps sz L)(hq:bM w' b A n c all r' va vp sz)(hb:Below w.heap.size (bl b w) (bl b w')):aP w' b A n c all r' va st vp ps sz L/\Tn [b] L L w w':=by
 have ht:Tn [b] L L w w':=Tn.of_kb hb (List.mem_singleton_self _);have hS:∀k∈[b],k∈L:=fun k hk=>by rw[Yp.1 hk];exact h.lb
 obtain⟨cs,h1,h2⟩:=h.op;refine⟨⟨hq.row,h.rd.up ht.ups (ht.up hS),hq.len,hq.pre,hq.fin,h.tks,jM h.oa fun k hk=>ht.block k ?_ ?_,⟨cs,jM h1 fun k hk=>ht.block k ?_ ?_,sB ht.ups (ht.up hS) h2⟩,h.lb,h.la,h.lp,fun k hk=>Yt (h.lv k hk) ht.size⟩,ht⟩;· exact h.lv k (h.la k hk)
 . intro e;rw[Yp.1 e]at hk;exact h.va_ne hk
 . exact h.lv k (h.lp k hk)
 . intro e;rw[Yp.1 e]at hk;exact h.vp_ne hk
theorem aP.below(h:aP w b A n c all r va st vp ps sz L)(hb:Below w.heap.size w w'):aP w' b A n c all r va st vp ps sz L:=
 (h.move (h.q.below hb) (iQ hb)).1
theorem aP.alloc(h:aP w b A n c all r va st vp ps sz L)(o:Obj):aP (w.alloc o) b A n c all r va st vp ps sz L:=h.below ((Yg _ _).alloc (Yh _) o)
theorem aP.drew(h:aP w b A n c all r va st vp ps sz L):aP w.drew b A n c all r va st vp ps sz L:=h.below (eP (Yg _ _) 1)
theorem aP.use(h:aP w b A n c all r va st vp ps sz L)(hb:Below w.heap.size w w'){g:Nat}(hg:w.heap.size<=g)(hg2:g<w'.heap.size):aP w' b A n c all r va st vp ps sz (g::L):=by
 have h1:=h.below hb;have ht:Tn [] L (g::L) w w':=(Tn.of_below hb).use hg;have hS:∀k∈([]:LN),k∈L:=fun k hk=>absurd hk Yl;obtain⟨cs,h3,h4⟩:=h.op;refine⟨h1.row,h.rd.up ht.ups (ht.up hS),h1.len,h1.pre,h1.fin,h1.tks,h1.oa,⟨cs,jM h3 fun k hk=>hb.block k (h.lv k (h.lp k hk)),sB ht.ups (ht.up hS) h4⟩,Zi _ h.lb,fun k hk=>Zi _ (h.la k hk),fun k hk=>Zi _ (h.lp k hk),fun k hk=>?_⟩;rcases Yw.1 hk with rfl|hk;· exact hg2
 . exact h1.lv k hk
end
end
section
open Go.RowKit Go.Sort
theorem cAn:∃i:TypeInfo,Tryz.prog.info? 1=some i/\i.size=1/\i.zero=some .nilFunc/\i.bytes=8:=by
 have h:(Tryz.prog.info? 1).map (fun i=>(i.size,i.zero,i.bytes))=some (1,some .nilFunc,8):=aE;cases hq:Tryz.prog.info? 1 with
 |none=>rw[hq]at h;cases h
 |some i=>
  exact bC4
def dQ(w:World)(v v':Value):Prop:=v'.ownBlock=v.ownBlock\/∀k,v'.ownBlock=some k->w.heap.size<=k
theorem dQ.refl(w:World)(v:Value):dQ w v v:=.inl rfl
theorem dQ.trans{w w1:World}{v v1 v2:Value}(h:dQ w v v1)(k:dQ w1 v1 v2)(hs:w.heap.size<=w1.heap.size):dQ w v v2:=by
 rcases k with k|k
 . rcases h with h|h;· exact .inl (k.trans h)
   . exact .inr fun j hj=>h j (k ▸ hj)
 . exact .inr fun j hj=>Yr hs (k j hj)
def dZ(b:Nat)(va:Value):List Nat:=b::va.ownBlock.toList
theorem aZf{b:Nat}{va:Value}:b∈dZ b va:=Zc
theorem aZg{b:Nat}{va:Value}{k:Nat}(h:va.ownBlock=some k):k∈dZ b va:=by simp[dZ,h]
theorem aL4{w:World}{b:Nat}{va va1:Value}(h:dQ w va va1):∀k∈dZ b va1,k∈dZ b va\/w.heap.size<=k:=by
 intro k hk;simp only[dZ,Yw,Option.mem_toList]at hk;rcases hk with rfl|hk;· exact .inl aZf
 . rcases h with h|h;· exact .inl (aZg (h ▸ hk))
   . exact .inr (h k hk)
section
variable {w w':World}{b:Nat}{A:OA}{n c:Nat}{all r r':List Tk}{va vp:Value}{st:LV}{ps:List Ex}{sz:Nat}{L L' S:LN}
theorem bTn{w1 w2:World}{g cap:Nat}{v:Value}(h:aP w b A n c all r va st vp ps sz L)(hb:Below w.heap.size w w1)
 (Ao:w2.ownsRow 0 1 1 (.slice (some ⟨g,0,none⟩) (st.length+1) cap) (st.length+1) (st.reverse++[v]))(Du:w1.grownBy w2 va.ownBlock)(Ar:va.ownBlock=some g\/g=w1.heap.size)(Ah:g<w2.heap.size):
 ∃L',aP (w2.setCell ⟨b,2,none⟩ (.slice (some ⟨g,0,none⟩) (st.length+1) cap)) b A n c all r (.slice (some ⟨g,0,none⟩) (st.length+1) cap) (v::st) vp ps sz L'/\
  Tn (dZ b va) L L' w (w2.setCell ⟨b,2,none⟩ (.slice (some ⟨g,0,none⟩) (st.length+1) cap))/\dQ w va (.slice (some ⟨g,0,none⟩) (st.length+1) cap):=by
 have h1:=h.below hb;have Cl:=h.lt;have Aq:b<w1.heap.size:=Yt Cl hb.size;have Aa:w2.heap[b]?=some (.cells (nE (.slice A n c) ((n-r.length:Nat):Int) va vp sz) 257):=(Du.block b Aq (fun e=>h.va_ne e.symm)).trans h1.row;have Hc:g≠b:=by
  rcases Ar with Ar|Ar;· rintro rfl;exact h.va_ne Ar
  . omega
 generalize Fs:Value.slice (some ⟨g,0,none⟩) (st.length+1) cap=v' at *;have Ae:v'.ownBlock=some g:=by rw[<-Fs];rfl
 have hL:∀k∈g::L,k∈L\/w.heap.size<=k:=fun k hk=>by
  rcases Yw.1 hk with rfl|hk
  . rcases Ar with Ar|Ar;· exact .inl (h.la k Ar)
    . exact .inr aO7
  . exact .inl hk
 have ht:Tn (dZ b va) L (g::L) w (w2.setCell ⟨b,2,none⟩ v'):=by
  refine⟨?_,?_,?_,?_,fun k hk hn=>?_,hL,fun k hk _=>Zi _ hk⟩;· exact Du.os.trans hb.os
  . exact Du.tape.trans hb.tape
  . exact Du.output.trans hb.output
  . have:=hb.size;have:=Du.size;simp;omega
  . have Bs:k≠b:=fun e=>hn (e ▸ aZf);have Hb:some k≠va.ownBlock:=fun e=>hn (aZg e.symm);rw[Xb _ _ _ _ (show k≠b from Bs),Du.block k (Yt hk hb.size) Hb,hb.block k hk]
 have hS:∀k∈dZ b va,k∈L:=fun k hk=>by
  exact aPn
 obtain⟨cs,h3,h4⟩:=h.op;have Dd:∀k,k≠b->(w2.setCell ⟨b,2,none⟩ v').heap[k]?=w2.heap[k]?:=fun k hk=>Xb _ _ _ _ hk;refine⟨g::L,⟨?_,h.rd.up ht.ups (ht.up hS),h.len,h.pre,h.fin,h.tks,?_,⟨cs,jM h3 fun k hk=>?_,sB ht.ups (ht.up hS) h4⟩,Zi _ h.lb,fun k hk=>?_,fun k hk=>Zi _ (h.lp k hk),fun k hk=>?_⟩,ht,?_⟩
 . rw[Xi _ _ _ _ _ _ _ Aa,Xh _ _ _ _ _ _ Aa];rfl
 . have:=jM Ao fun k hk=>Dd k (by rw[Ae]at hk;injection hk with hk;omega)
   simpa using this
 . have Bs:k≠b:=fun e=>h.vp_ne (e ▸ hk);have Ct:=h.lv k (h.lp k hk);rw[Dd k Bs,Du.block k (Yt Ct hb.size) (fun e=>h.vap e.symm hk),hb.block k Ct]
 . rw[Ae]at hk;injection hk with hk;exact hk ▸ Zc
 . have Ha:(w2.setCell ⟨b,2,none⟩ v').heap.size=w2.heap.size:=by simp
   rw[Ha];exact bC8
 . rcases Ar with Ar|Ar;· exact .inl (Ae.trans Ar.symm)
   . refine .inr fun k hk=>?_;rw[Ae]at hk;injection hk with hk
     have:=hb.size
     omega
theorem bMh{w1 w2:World}(h:aP w b A n c all r va st vp ps sz L)(Du:w1.grownBy w2 va.ownBlock)(hb:Below w.heap.size w w1):
 w2.cell? ⟨b,2,none⟩=some va/\w2.frozen? ⟨b,2,none⟩=false/\∀g j v,g∉L->w.cell? ⟨g,j,none⟩=some v->w2.cell? ⟨g,j,none⟩=some v:=by
 have Ae:b<w1.heap.size:=Yt h.lt hb.size;have Aa:w2.heap[b]?=some (.cells (nE (.slice A n c) ((n-r.length:Nat):Int) va vp sz) 257):=(Du.block b Ae (fun e=>h.va_ne e.symm)).trans (h.below hb).row;refine⟨?_,?_,fun g j v hg hv=>?_⟩
 . unfold World.cell?;rw[Aa];rfl
 . unfold World.frozen?;rw[Aa];simp
 . have Ah:=Yi w _ hv;have e:=(Du.block g (Yt Ah hb.size) (fun e=>hg (h.la g e.symm))).trans (hb.block g Ah);unfold World.cell? at hv⊢;rw[e];exact hv
theorem bO5{l:LV}{i:Nat}(h:i<l.length):l.drop (l.length-(i+1))=(l[l.length-1-i]?.getD default)::l.drop (l.length-i):=by
 have e:l.length-(i+1)<l.length:=aA;rw[List.drop_eq_getElem_cons e];have e2:l.length-(i+1)=l.length-1-i:=aA;have e3:l.length-(i+1)+1=l.length-i:=aA;rw[e3];congr 1;rw[Yk aA];simp[e2]
theorem cAo(l:LV)(g c1:Nat)(hl:l.length<=100)(h:aP w b A n c all r va st vp ps sz L)(Av:st.length<=2000000)(Nk:g<w.heap.size)(Fs:g∉L)
 (hc:∀j,j<l.length->w.cell? ⟨g,j,none⟩=some (l[j]?.getD default))(h1:∀v∈l,∃fn a c,v=.func fn a c):
 Calls Tryz.prog 246 #[rp b,.slice (some ⟨g,0,none⟩) l.length c1] w fun e w'=>e=.returned (.tuple #[])/\
  ∃Ae L',aP w' b A n c all r Ae (l++st) vp ps sz L'/\Tn (dZ b va) L L' w w'/\dQ w va Ae:=by
 obtain⟨i0,hi,Cm,Co,Cr⟩:=cAn;have HM:=Hd h;have HC:=Hd fun w1 (L1:LN) (ht:Tn (dZ b va) L L1 w w1) j (hj:j<l.length)=>(show w1.cell? ⟨g,j,none⟩=some (l[j]?.getD default) by
  have hS:∀k∈dZ b va,k∈L:=fun k hk=>by
   exact aPn
  exact(zV (ht.up hS _ _ (by rw[rR Fs];exact hc j hj))).1)
 have HD:=Hd fun i (hi:i<l.length)=>bO5 (l:=l) hi;have HO:=Hd fun j (hj:j<l.length)=>h1 (l[j]?.getD default) (by rw[Yk hj];exact Zk _);have Ni:=Hd (show l.drop (l.length-0)=[]by simp);have Nl:=Hd (show l.drop (l.length-l.length)=l by simp);have Nn:=h.lv;have Nj:=Hd fun(L1:LN) w1 (ht:Tn (dZ b va) L L1 w w1)=>(show g∉L1 from fun hk=>(ht.live g hk).elim Fs fun h2=>by omega);generalize Bs:l.length=len at *;clear h hc h1 Fs;go_in
 go_wp2_with fail;go_loopw [7] (fun i wr=>∃k:Nat,k<=len/\i=.int .i64 k/\∃Ae L',aP wr b A n c all r Ae (l.drop (len-k)++st) vp ps sz L'/\Tn (dZ b va) L L' w wr/\dQ w va Ae) (fun i _=>len-(intOf i).toNat)
 case atStart=>
  refine⟨0,Ys _,rfl,va,L,?_,Tn.refl _ _ _,dQ.refl _ _⟩;rw[Ni.o];exact HM.o
 case round=>
  obtain⟨k,hk,rfl,va1,L1,Bt,Bf,Ng⟩:=hrel;have Bc:=Hd Bt;have Aa:=Hd Bf;have Ha:=Hd Ng;clear Bt Bf Ng;by_cases Ah:k<len
  . have hj:len-1-k<len:=by omega
    have g0:=HC.o wr L1 Aa.o (len-1-k) hj;have ho:=HO.o (len-1-k) hj;have Hc:=Hd (HD.o k Ah);have c2:wr.cell? ⟨b,2,none⟩=some va1:=Bc.o.cell 2;have Cl:=Bc.o.lt;have Np:g<wr.heap.size:=Yt Nk Aa.o.size;have Aq:(l.drop (len-k)++st).length=k+st.length:=by rw[Yo,Zv,Bs];omega
    have Af:IntKind.i64.wrap ((len:Int)-1)=((len-1:Nat):Int):=aGh;have No:IntKind.i64.wrap (((len-1:Nat):Int)-(k:Int))=((len-1-k:Nat):Int):=aGh;have Nq:(0:Int)<=((len-1-k:Nat):Int):=aA;have Nr:((len-1-k:Nat):Int)<(len:Int):=aA;generalize len-1-k=j at *;obtain⟨fn,fa,fc,hv⟩:=ho;rw[hv]at g0 Hc;clear hv;go_upto_region 3 with(fail);go_region_law
     ((refine step_append_lies _ bC _ _ _ bC 0 1 i0 .nilFunc 1 8 Tryz.underlying255 hi Co Cm Cr rfl aF va1 (k+st.length) (l.drop (len-k)++st).reverse bC (by rw [<- Aq];exact Bc.o.alloc _ |>.oa) ⟨wr.heap.size,0,none⟩ 1 1 [.func fn fa fc] bC rfl (cell_one_new _ _ _) (fun u hu=>by rw [Yp.1 hu];rfl) aA fZ aA (Ys _) _ rfl ?_
       intro g1 Ct w4 Bh As Cw Dt;obtain⟨d2,f2,dk⟩:=bMh Bc.o As mF;have d0:=dk g j _ (Nj.o L1 wr Aa.o) g0;clear dk))
    go_wp2_with fail
    all_goals
     have hp:=bTn (v:=.func fn fa fc) (g:=g1) (cap:=Ct) (w2:=w4) Bc.o (show Below wr.heap.size wr (wr.alloc (Obj.cells #[Value.func fn fa fc] 1)).drew from((Yg _ _).alloc (Yh _) _).drew);rw[Aq]at hp;obtain⟨L2,Nh,Hb,Jx⟩:=hp Bh As Cw Dt;have Cf:=Hd Nh;have De:=Hd (Aa.o.trans Hb Nn (aL4 Ha.o));have Dl:=Hd (Ha.o.trans Jx Aa.o.size);clear hp Nh Hb Jx;go_roundw;case rel=>
      refine⟨k+1,by omega,by go_num,_,L2,?_,De.o,Dl.o⟩;rw[Hc.o];exact Cf.o
     case measure=>simp[intOf];omega
  . have Nm:k=len:=by omega
    subst Nm;go_wp2_with fail;go_end0
    rw[Nl.o]at Bc;exact⟨rfl,va1,L1,Bc.o,Aa.o,Ha.o⟩
end
end
end Go.Proofs.YtagkcjpoipcpkaaGreatDoor
