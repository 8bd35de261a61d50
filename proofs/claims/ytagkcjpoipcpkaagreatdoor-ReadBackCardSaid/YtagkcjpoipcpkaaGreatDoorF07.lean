/- A part of the proof. Conditions: each theorem's own. -/
import Derived.Test.YtagkcjpoipcpkaaGreatDoorF03
import Derived.Test.YtagkcjpoipcpkaaGreatDoorF05
import Derived.Test.YtagkcjpoipcpkaaGreatDoorF06
namespace Go.Proofs.YtagkcjpoipcpkaaGreatDoor
set_option linter.unusedVariables false
set_option linter.unusedSimpArgs false
set_option maxRecDepth 100000
set_option maxHeartbeats 40000000
section
open Go.RowKit
def aY{α:Type}[Inhabited α](k:Nat)(At:World->Nat->Nat->α->Prop)(w:World)(A:OA)(n:Nat)(l:List α):Prop:=
 l.length=n/\n<=9223372036854775807/\(0<n->∃b off,A=some ⟨b,off,none⟩/\b<w.heap.size/\∀i,i<n->At w b (off+i*k) (l[i]?.getD default))
def aB8{α:Type}(At:World->Nat->Nat->α->Prop):Prop:=
 ∀{w w':World}{b o:Nat}{x:α},At w b o x->b<w.heap.size->w.heap.size<=w'.heap.size->(∀p:Addr,p.block<w.heap.size->w'.cell? p=w.cell? p)->At w' b o x
def dcL(d:Dc):List Value:=[.string d.nm,.int .i64 d.k,.int .i64 d.e,.int .i64 d.l,.string d.on,.string d.ct]
def gG(d:Dc):Array Value:=#[.string d.nm,.int .i64 d.k,.int .i64 d.e,.int .i64 d.l,.string d.on,.string d.ct]
def oC(w:World)(b o:Nat)(d:Dc):Prop:=w.rangeAt b o (dcL d)
def cY(w:World)(A:OA)(n:Nat)(l:List Dc):Prop:=aY 6 oC w A n l
def vI(w:World)(b o:Nat)(q:Qn):Prop:=
 ∃A c A' ca B' cb,w.cell? ⟨b,o,none⟩=some (.slice A q.ns.length c)/\aS w A q.ns.length q.ns/\w.rangeAt b (o+1) (dB q.x A' ca B' cb)/\aM w q.x A' B'
def nD(w:World)(A:OA)(n:Nat)(l:List Qn):Prop:=aY 7 vI w A n l
def eH(n:Nd)(A1:OA)(c1:Nat)(A2:OA)(c2:Nat)(A3:OA)(c3:Nat)(A4:OA)(c4:Nat):Array Value:=
 #[.string n.nm,.slice A1 n.ins.length c1,.slice A2 n.outs.length c2,.slice A3 n.vars.length c3,.slice A4 n.eqs.length c4]
def ndL(n:Nd)(A1:OA)(c1:Nat)(A2:OA)(c2:Nat)(A3:OA)(c3:Nat)(A4:OA)(c4:Nat):List Value:=
 [.string n.nm,.slice A1 n.ins.length c1,.slice A2 n.outs.length c2,.slice A3 n.vars.length c3,.slice A4 n.eqs.length c4]
def gA(w:World)(n:Nd)(A1 A2 A3 A4:OA):Prop:=cY w A1 n.ins.length n.ins/\cY w A2 n.outs.length n.outs/\cY w A3 n.vars.length n.vars/\nD w A4 n.eqs.length n.eqs
def xA(w:World)(b o:Nat)(n:Nd):Prop:=
 ∃A1 c1 A2 c2 A3 c3 A4 c4,w.rangeAt b o (ndL n A1 c1 A2 c2 A3 c3 A4 c4)/\gA w n A1 A2 A3 A4
def kE(w:World)(A:OA)(n:Nat)(l:List Nd):Prop:=aY 5 xA w A n l
section
variable {w w':World}{A B A1 A2 A3 A4:OA}{n:Nat}
theorem aY.len{α:Type}[Inhabited α]{k:Nat}{At:World->Nat->Nat->α->Prop}{l:List α}(h:aY k At w A n l):l.length=n:=h.1
theorem aY.max{α:Type}[Inhabited α]{k:Nat}{At:World->Nat->Nat->α->Prop}{l:List α}(h:aY k At w A n l):n<=9223372036854775807:=h.2.1
theorem aY.at_{α:Type}[Inhabited α]{k:Nat}{At:World->Nat->Nat->α->Prop}{l:List α}(h:aY k At w A n l)(hn:0<n):
 ∃b off,A=some ⟨b,off,none⟩/\b<w.heap.size/\∀i,i<n->At w b (off+i*k) (l[i]?.getD default):=h.2.2 hn
theorem aY.nil_{α:Type}[Inhabited α](k:Nat)(At:World->Nat->Nat->α->Prop)(w:World):aY k At w none 0 []:=⟨rfl,by omega,by omega⟩
theorem aY.keep{α:Type}[Inhabited α]{k:Nat}{At:World->Nat->Nat->α->Prop}{l:List α}(Aa:aB8 At)(h:aY k At w A n l)(hs:w.heap.size<=w'.heap.size)(hk:∀p:Addr,p.block<w.heap.size->w'.cell? p=w.cell? p):aY k At w' A n l:=
 ⟨h.1,h.2.1,fun hn=>by
  obtain⟨b,off,e,hb,hc⟩:=h.2.2 hn;exact⟨b,off,e,by omega,fun i hi=>Aa (hc i hi) hb hs hk⟩⟩
theorem bRz:aB8 oC:=fun h hb hs hk=>uE h hb hk
theorem bR0:aB8 vI:=fun h hb hs hk=>by
 obtain⟨A,c,A',ca,B',cb,h1,h2,h3,h4⟩:=h;exact⟨A,c,A',ca,B',cb,(hk _ hb).trans h1,h2.keep hs hk,uE h3 hb hk,h4.keep hs hk⟩
theorem cY.keep{l:List Dc}(h:cY w A n l)(hs:w.heap.size<=w'.heap.size)(hk:∀p:Addr,p.block<w.heap.size->w'.cell? p=w.cell? p):cY w' A n l:=aY.keep bRz h hs hk
theorem nD.keep{l:List Qn}(h:nD w A n l)(hs:w.heap.size<=w'.heap.size)(hk:∀p:Addr,p.block<w.heap.size->w'.cell? p=w.cell? p):nD w' A n l:=aY.keep bR0 h hs hk
theorem gA.keep{x:Nd}(h:gA w x A1 A2 A3 A4)(hs:w.heap.size<=w'.heap.size)(hk:∀p:Addr,p.block<w.heap.size->w'.cell? p=w.cell? p):gA w' x A1 A2 A3 A4:=
 ⟨h.1.keep hs hk,h.2.1.keep hs hk,h.2.2.1.keep hs hk,h.2.2.2.keep hs hk⟩
theorem bR1:aB8 xA:=fun h hb hs hk=>by
 exact bC2
theorem kE.keep{l:List Nd}(h:kE w A n l)(hs:w.heap.size<=w'.heap.size)(hk:∀p:Addr,p.block<w.heap.size->w'.cell? p=w.cell? p):kE w' A n l:=aY.keep bR1 h hs hk
theorem cY.below{l:List Dc}(h:cY w A n l)(hb:Below w.heap.size w w'):cY w' A n l:=h.keep hb.size fun _ hp=>hb.cell hp
theorem nD.below{l:List Qn}(h:nD w A n l)(hb:Below w.heap.size w w'):nD w' A n l:=h.keep hb.size fun _ hp=>hb.cell hp
theorem gA.below{x:Nd}(h:gA w x A1 A2 A3 A4)(hb:Below w.heap.size w w'):gA w' x A1 A2 A3 A4:=h.keep hb.size fun _ hp=>hb.cell hp
theorem kE.below{l:List Nd}(h:kE w A n l)(hb:Below w.heap.size w w'):kE w' A n l:=h.keep hb.size fun _ hp=>hb.cell hp
theorem oC.six{b o:Nat}{d:Dc}(h:oC w b o d):
 w.cell? ⟨b,o,none⟩=some (.string d.nm)/\w.cell? ⟨b,o+1,none⟩=some (.int .i64 d.k)/\w.cell? ⟨b,o+2,none⟩=some (.int .i64 d.e)/\w.cell? ⟨b,o+3,none⟩=some (.int .i64 d.l)/\
  w.cell? ⟨b,o+4,none⟩=some (.string d.on)/\w.cell? ⟨b,o+5,none⟩=some (.string d.ct):=⟨h 0 _ rfl,h 1 _ rfl,h 2 _ rfl,h 3 _ rfl,h 4 _ rfl,h 5 _ rfl⟩
theorem aM6{b o:Nat}{x:Nd}{c1 c2 c3 c4:Nat}(h:w.rangeAt b o (ndL x A1 c1 A2 c2 A3 c3 A4 c4)):
 w.cell? ⟨b,o,none⟩=some (.string x.nm)/\w.cell? ⟨b,o+1,none⟩=some (.slice A1 x.ins.length c1)/\w.cell? ⟨b,o+2,none⟩=some (.slice A2 x.outs.length c2)/\w.cell? ⟨b,o+3,none⟩=some (.slice A3 x.vars.length c3)/\
  w.cell? ⟨b,o+4,none⟩=some (.slice A4 x.eqs.length c4):=⟨h 0 _ rfl,h 1 _ rfl,h 2 _ rfl,h 3 _ rfl,h 4 _ rfl⟩
end
theorem bR2:Tryz.prog.cellsOf 130=6:=aE
theorem bR3:Tryz.prog.cellsOf 81=7:=aE
theorem bR4:Tryz.prog.cellsOf 69=5:=aE
end
section
open Go.RowKit
def yH(d:Dc):Bool:=!decide (100<d.nm.size) && !decide (100<d.on.size) && !decide (100<d.ct.size)
def mZ(l:List Dc):Bool:=l.all yH && decide (l.length<=20)
theorem aLj{α:Type}[Inhabited α]{f:α->Bool}{l:List α}{k:Nat}(h:(l.take k).all f=true)(hk:k<l.length)(hf:f (l[k]?.getD default)=true):(l.take (k+1)).all f=true:=by
 rw[List.take_add_one,Yk hk,List.all_append,h];rw[Yk hk]at hf;simpa using hf
theorem aEr{α:Type}[Inhabited α]{f:α->Bool}{l:List α}{k:Nat}(hk:k<l.length)(hf:f (l[k]?.getD default)=false):l.all f=false:=by
 rw[Yk hk]at hf;rw[List.all_eq_false];exact⟨_,Zk hk,by simpa using hf⟩
theorem bV1(A:OA)(n c:Nat)(l:List Dc)(w:World)(h:cY w A n l):
 Calls Tryz.prog 26 #[.slice A n c] w fun e w'=>e=.returned (.bool (mZ l))/\w=w':=by
 have Aa:=h.len;have Ae:=h.max;have HL:=Hd Aa;go_in
 go_wp2_with fail;go_loop [3] (fun i=>∃k:Nat,k<=n/\i=.int .i64 k/\(l.take k).all yH=true) (fun i=>n-(intOf i).toNat)
 case atStart=>exact⟨0,Ys _,rfl,by simp⟩
 case round=>
  obtain⟨k,hk,rfl,Ck⟩:=hrel;have HT:=Hd Ck;clear Ck;by_cases Ah:k<n
  . obtain⟨b,off,rfl,hb,hc⟩:=aY.at_ h aA;obtain⟨c0,-,-,-,c4,c5⟩:=(hc k Ah).six;clear hc;have HS:=Hd fun hf=>aLj (l:=l) (f:=yH) HT.o aGj hf;have HN:=Hd fun hf=>aEr (l:=l) (f:=yH) (k:=k) aGj hf;generalize l[k]?.getD default=d at c0 c4 c5 HS HN;have HD:=Hd (show yH d=(!decide (100<d.nm.size) && !decide (100<d.on.size) && !decide (100<d.ct.size))from rfl);generalize d.nm=x0 at *;generalize d.on=x1 at *;generalize d.ct=x2 at *;cases d0:decide ((100:Int)<(x0.size:Int))with
    |true=>
     have Di:=Hd (HN.o (by rw[HD.o,show decide (100<x0.size)=true by have:=of_decide_eq_true d0;exact Xc aA];simp));exact aPz
    |false=>
     cases d1:decide ((100:Int)<(x1.size:Int))with
     |true=>
      have Di:=Hd (HN.o (by rw[HD.o,show decide (100<x1.size)=true by have:=of_decide_eq_true d1;exact Xc aA];simp));exact aPz
     |false=>
      cases d2:decide ((100:Int)<(x2.size:Int))with
      |true=>
       have Di:=Hd (HN.o (by rw[HD.o,show decide (100<x2.size)=true by have:=of_decide_eq_true d2;exact Xc aA];simp));exact aPz
      |false=>
       have HY:=Hd (HS.o (by
        have h0:=of_decide_eq_false d0;have h1:=of_decide_eq_false d1;have h2:=of_decide_eq_false d2;rw[HD.o,Xd (show ¬100<x0.size by omega),Xd (show ¬100<x1.size by omega),Xd (show ¬100<x2.size by omega)]
        rfl))
       go_wp2_with fail;go_round
       case rel=>exact⟨k+1,by omega,by go_num,HY.o⟩
       case measure=>simp[intOf];omega
  . have Kl:k=n:=by omega
    subst Kl;have HY:=Hd (show l.all yH=true by have:=HT.o;rwa[Yz (by rw[HL.o];exact Yh _)]at this);have HE:=Hd (show mZ l=decide ((k:Int)<=20)by rw[mZ,HY.o,Bool.true_and,HL.o];simp;omega);go_wp2_with fail;go_ret;exact⟨aO HE.o.symm,rfl⟩
theorem aTp{l:List Dc}{k:Nat}(hk:k<l.length):(fW l).take (k+1)=(fW l).take k++[(l[k]?.getD default).nm]:=by
 rw[fW,List.take_add_one,List.getElem?_map,Yk hk];simp
theorem aVa(l:List Dc):(fW l).length=l.length:=by simp[fW]
def bN1(w:World)(n:Nat)(ss:LB)(e:Ending)(w':World):Prop:=∃A c,e=.returned (.slice A n c)/\aS w' A n ss/\Below w.heap.size w w'
theorem aVb(A:OA)(n c:Nat)(l:List Dc)(w:World)(h:cY w A n l)(hn:n<=7000):
 Calls Tryz.prog 31 #[.slice A n c] w (bN1 w n (fW l)):=by
 have Hb:=h.len;have Jx:=h.max;obtain⟨i0,hi,Cm,Co,Cr⟩:=info_parts vQ;have Ae:=Hd (World.ownsRow_lit (base:=w.heap.size) (e:=9) (size:=1) w #[] 0 (Yh _) aF rfl);have Cd:=Hd ((Yg w.heap.size w).alloc (Yh _) (.cells #[] 9));go_in
 go_wp2_with fail;go_loopw [3,4] (fun v i wr=>∃k:Nat,k<=n/\i=.int .i64 k/\wr.ownsRow w.heap.size 9 1 v k (((fW l).take k).map Value.string)/\Below w.heap.size w wr) (fun _ i _=>n-(intOf i).toNat)
 case atStart=>exact⟨0,Ys _,rfl,Ae.o,Cd.o⟩
 case round=>
  obtain⟨k,hk,rfl,Aa,An⟩:=hrel;by_cases Ah:k<n
  . obtain⟨b,off,rfl,hb,hc⟩:=aY.at_ h aA;obtain⟨Dy,-⟩:=(hc k Ah).six;have Ha:=(An.cell (p:=⟨b,off+k*6,none⟩) hb).trans Dy;have Bs:=Hd (aTp (l:=l) (k:=k) aA);generalize (l[k]?.getD default).nm=x at Ha Bs;have Bk:=Hd An;have H3:=Hd Aa;have Hc:=An.size;clear Aa Ae Cd Dy hc;go_wp2_with (at_builtin;refine wpList_append_own_at _ rfl _ _ 62 rfl w.heap.size 9 i0 (.string ByteArray.empty) 1 16 Tryz.underlying62 hi Cm Co Cr rfl aF _ _ _ rfl (H3.o.alloc _) ⟨wr.heap.size,0,none⟩ 1 1 [.string x] rfl rfl (cell_one_new _ _ _) (tA [x]) fZ aA cP ?_;intro v' w1 Bb Aw Fc Eg;have Aq:=(Bk.o.alloc Hc (.cells #[.string x] 9)).grown Aw cP (fun j hj=>(H3.o.lt j hj).1);have HO:=Hd Bb;have Ac:=Hd Aq;clear Aw Bb Fc Eg Aq);go_roundw;case rel=>
     refine⟨k+1,by omega,by go_num,?_,Ac.o⟩;rw[Bs.o,Zt];exact HO.o
    case measure=>simp[intOf];omega
  . obtain rfl:k=n:=by omega
    have Ct:(fW l).take k=fW l:=Yz (by rw[aVa];omega);rw[Ct]at Aa;obtain⟨A1,c1,rfl,Fs,_⟩:=aS.of_own Aa aA;have Bi:=Hd Fs;have Bk:=Hd An;clear Aa Fs Ae Cd Ct An;go_wp2_with fail;go_ret;exact⟨A1,c1,rfl,Bi.o,Bk.o⟩
theorem bR5(s:BA)(w:World)(hs:s.size<=9223372036854775807):
 Calls Tryz.prog 129 #[.string s] w fun e w'=>e=.returned (.bool (sO s))/\w=w':=by
 have HH:=Hd (aE5 s w hs);have HE:=Hd (show sO s=(dF s.data.toList || (s.toList==[116,114,117,101]) || (s.toList==[102,97,108,115,101]))by rw[Zf];rfl);cases h1:dF s.data.toList with
 |true=>
  rw[h1]at HH HE;exact bCi
 |false=>
  rw[h1]at HH HE;cases h2:(s.toList==[116,114,117,101])with
  |true=>
   rw[h2]at HE;exact bCi
  |false=>
   rw[h2]at HE;cases h3:(s.toList==[102,97,108,115,101])with
   |true=>
    exact bIe
   |false=>
    exact bIe
end
section
open Go.RowKit Go.Sort
def eY(l:List Dc):List Value:=l.flatMap dcL
theorem aB9(l:List Dc):(eY l).length=l.length*6:=by
 induction l with
 |nil=>rfl
 |cons d l ih=>simp only[eY,List.flatMap_cons,Yo,Yq]at ih⊢;rw[ih];simp[dcL];omega
theorem aIn(a b:List Dc):eY (a++b)=eY a++eY b:=by simp[eY]
theorem bV2(d:Dc):eY [d]=dcL d:=by simp[eY]
theorem aOn:∀(l:List Dc)(i j:Nat),i<l.length->j<6->(eY l)[i*6+j]?=(dcL (l[i]?.getD default))[j]?
 |t::ts,0,j,_,hj=>by
  have hz:j<(dcL t).length:=by simpa[dcL]using hj
  simp only[eY,List.flatMap_cons,Nat.zero_mul,Nat.zero_add];rw[List.getElem?_append_left hz];simp
 |t::ts,i+1,j,hi,hj=>by
  have ih:=aOn ts i j vG hj;have hz:(dcL t).length=6:=by simp[dcL]
  simp only[eY,List.flatMap_cons];rw[List.getElem?_append_right (by rw[hz];omega),hz,show(i+1)*6+j-6=i*6+j by omega];simpa[eY]using ih
theorem aH2(l:List Dc):∀u∈eY l,u.oneCell'=true:=by
 intro u hu;simp only[eY,List.mem_flatMap]at hu;obtain⟨t,_,hu⟩:=hu;simp[dcL]at hu;rcases hu with rfl|rfl|rfl|rfl|rfl|rfl<;>rfl
section
variable {w w':World}{A:OA}{n:Nat}{l:List Dc}
theorem cY.of_own{base:Nat}{e:TypeId}{v:Value}(h:w.ownsRow base e 6 v n (eY l))(hm:n<=9223372036854775807):∃A c,v=.slice A n c/\cY w A n l:=by
 have hl:l.length=n:=by
  have:=h.1
  rw[aB9]at this;omega
 rcases h.2 with⟨rfl,rfl⟩|⟨g,cap,cur,rfl,hg,hh,hnc,hcm,hcs,ht⟩
 . obtain rfl:l=[]:=Zu hl;exact⟨none,0,rfl,aY.nil_ _ _ _⟩
 . refine⟨_,cap,rfl,hl,hm,fun hn=>⟨g,0,rfl,(Ym.1 hh).1,fun i hi=>?_⟩⟩;intro j v hv;have hj:j<6:=by
    rcases Nat.lt_or_ge j 6 with h|h;· exact h
    . rw[List.getElem?_eq_none (by simpa[dcL]using h)]at hv;cases hv
   rw[Nat.zero_add,h.cellAt (i*6+j) aA,aOn l i j aA hj,hv]
theorem cY.news(h:cY w A n l):(A=none->n=0)/\∀ad,A=some ad->∀j u,(eY l)[j]?=some u->w.cell? (ad.add j)=some u:=by
 constructor
 . rintro rfl;rcases Nat.eq_zero_or_pos n with h0|h0;· exact h0
   . obtain⟨b,off,e,_⟩:=aY.at_ h h0;cases e
 . rintro ad rfl j u hu;have hj:j<l.length*6:=by
    rcases Nat.lt_or_ge j (l.length*6)with h1|h1;· exact h1
    . rw[List.getElem?_eq_none (by rw[aB9];exact h1)]at hu;cases hu
   have Aa:=aY.len h;obtain⟨b,off,e,hb,hc⟩:=aY.at_ h aA;injection e with e;subst e;have h6:j / 6*6+j % 6=j:=aA;have h7:j % 6<6:=aA;have h1:=hc (j / 6) aA;rw[aM5];have h2:=aOn l (j / 6) (j % 6) aA h7;rw[h6,hu]at h2;have h3:=h1 (j % 6) u h2.symm;rwa[show off+j / 6*6+j % 6=off+j by omega]at h3
end
theorem aH3:(Tryz.prog.info? 130).map (fun i=>(i.size,i.bytes,i.zero.map fun z=>z.cells.size))=some (6,72,some 6):=aE
theorem zM{P:Program}{t:TypeId}{a b c:Nat}(h:(P.info? t).map (fun i=>(i.size,i.bytes,i.zero.map fun z=>z.cells.size))=some (a,b,some c)):∃i z,P.info? t=some i/\i.zero=some z/\i.size=a/\i.bytes=b/\z.cells.size=c:=by
 obtain⟨i,h1,h2⟩:=Option.map_eq_some_iff.1 h;simp only[Prod.mk.injEq,Option.map_eq_some_iff]at h2;obtain⟨h3,h4,z,h5,h6⟩:=h2;exact⟨i,z,h1,h5,h3,h4,h6⟩
theorem uH(w:World)(x:Nd)(A1:OA)(c1:Nat)(A2:OA)(c2:Nat)(A3:OA)(c3:Nat)(A4:OA)(c4:Nat)(w1:World)(h:w.alloc (.cells (eH x A1 c1 A2 c2 A3 c3 A4 c4) 69)=w1)(hr:gA w x A1 A2 A3 A4):
 Below w.heap.size w w1/\w1.heap.size=w.heap.size+1/\gA w1 x A1 A2 A3 A4/\∀w',Below w1.heap.size w1 w'->∀j,w'.cell? ⟨w.heap.size,j,none⟩=(eH x A1 c1 A2 c2 A3 c3 A4 c4)[j]?:=by
 subst h;refine⟨(Yg _ _).alloc (Yh _) _,by simp,hr.below ((Yg _ _).alloc (Yh _) _),fun w' hb j=>?_⟩;rw[hb.cell (p:=⟨w.heap.size,j,none⟩) aC,Zs]
def aVc(w:World)(n:Nat)(l:List Dc)(e:Ending)(w':World):Prop:=∃A c,e=.returned (.slice A n c)/\cY w' A n l/\Below w.heap.size w w'
theorem aY0(x:Nd)(A1:OA)(c1:Nat)(A2:OA)(c2:Nat)(A3:OA)(c3:Nat)(A4:OA)(c4:Nat)(w:World)(h:gA w x A1 A2 A3 A4)(hn:x.all.length<=7000):
 Calls Tryz.prog 32 #[.agg (eH x A1 c1 A2 c2 A3 c3 A4 c4)] w (aVc w x.all.length x.all):=by
 have Ng:=aIl x;have Nu:=Hd (show eY x.all=eY x.ins++eY x.outs++eY x.vars by rw[Nd.all,aIn,aIn]);have Ic:=Hd (aB9 x.ins);have Ny:=Hd (aB9 x.outs);have Nz:=Hd (aB9 x.vars);have Ns:=Hd (aH2 x.ins);have Je:=Hd (aH2 x.outs);have Ob:=Hd (aH2 x.vars);obtain⟨i0,z0,hi,Co,Cm,Cr,Nk⟩:=zM aH3;obtain⟨h1,h2,h3,h4⟩:=h;have HF:=Hd fun w1 (hw:w.alloc (.cells (eH x A1 c1 A2 c2 A3 c3 A4 c4) 69)=w1)=>uH w x A1 c1 A2 c2 A3 c3 A4 c4 w1 hw ⟨h1,h2,h3,h4⟩;unfold eH;go_in
 go_upto_region 1 with(fail);generalize Af:w.alloc _=w1;obtain⟨Ab,hg,⟨r1,r2,r3,-⟩,hcell⟩:=HF.o w1 Af;obtain⟨-,q1,q2,q3,-,-⟩:=Sx (hcell w1 (Yg _ _));simp only[eH,List.getElem?_toArray,Zd,Ze]at q1 q2 q3;have Ac:=Hd Ab;obtain⟨Nt,Nr⟩:=r1.news;obtain⟨Nv,Nw⟩:=r2.news;obtain⟨Oa,Nx⟩:=r3.news;have Bi:=Hd r1.news;have Cn:=Hd r2.news;have Np:=Hd r3.news;clear Af hcell Ab h1 h2 h3 h4 r1 r2 r3 Nt Nr Nv Nw Oa Nx HF;generalize x.ins.length=n1 at *;generalize x.outs.length=n2 at *;generalize x.vars.length=n3 at *;generalize eY x.ins=f1 at *;generalize eY x.outs=f2 at *;generalize eY x.vars=f3 at *;have No:=World.ownsRow_lit (base:=w1.heap.size) (e:=130) (size:=6) w1 #[] 0 aC aF rfl;rw[hg]at No;have Nq:=Hd (show(w1.alloc (.cells #[] 130)).drew.ownsRow (w.heap.size+1) 130 6 (.slice (some ⟨w.heap.size+1,0,none⟩) 0 0) 0 []from No);clear No;refine wp_region_held_drew (S:=fun W=>W.cell? ⟨w.heap.size,1,none⟩=some (.slice A1 n1 c1)/\W.cell? ⟨w.heap.size,2,none⟩=some (.slice A2 n2 c2)/\W.cell? ⟨w.heap.size,3,none⟩=some (.slice A3 n3 c3)) aE ?_ (fun hHeld=>?_);· exact⟨q1,q2,q3⟩
 refine dM (i:=1) (v:=.pointer (some ⟨w.heap.size,1,none⟩)) hHeld ?_
 (try simp only[Act.put,Yd,Ye,Yf])
 refine dM (i:=2) (v:=.slice A1 n1 c1) hHeld ?_
 (try simp only[Act.put,Yd,Ye,Yf])
 refine dM (i:=4) (v:=.pointer (some ⟨w.heap.size,2,none⟩)) hHeld ?_
 (try simp only[Act.put,Yd,Ye,Yf])
 refine dM (i:=5) (v:=.slice A2 n2 c2) hHeld ?_
 (try simp only[Act.put,Yd,Ye,Yf])
 refine dM (i:=7) (v:=.pointer (some ⟨w.heap.size,3,none⟩)) hHeld ?_
 (try simp only[Act.put,Yd,Ye,Yf])
 refine dM (i:=8) (v:=.slice A3 n3 c3) hHeld ?_
 (try simp only[Act.put,Yd,Ye,Yf])
 have Aa:Below w1.heap.size w1 (w1.alloc (.cells #[] 130)).drew:=((Yg w1.heap.size w1).alloc (Yh _) _).drew;have Fs:=Hd Aa;have a0:=(Aa.cell (p:=⟨w.heap.size,1,none⟩) pS).trans q1;have b0:=(Aa.cell (p:=⟨w.heap.size,2,none⟩) pS).trans q2;have e0:=(Aa.cell (p:=⟨w.heap.size,3,none⟩) pS).trans q3;clear Aa;refine Xj (rs:=[0]) aE aC ?_;refine Zn bC (fun K hK=>?_) ?_
 . go_simp;refine hK.out _ _ ?_ (fun hHeld=>?_);· exact⟨a0,b0,e0⟩
   clear hK K
   (try simp only[Act.put,Yd,Ye,Yf])
   refine Xj (rs:=[3]) aE aC ?_;refine Zn bC (fun K hK=>?_) ?_
   . refine zG bC _ _ _ bC (w.heap.size+1) 130 i0 z0 6 72 Tryz.underlying66 hi Co Cm Cr Nk aF (.slice (some ⟨w.heap.size+1,0,none⟩) 0 0) 0 [] bC Nq.o A1 n1 c1 f1 bC (by rw[Ic.o]) Bi.o.1 (fun ad e j u hu=>by have h:=Bi.o.2 ad e j u hu;exact(Fs.o.cell (Yi _ _ h)).trans h) Ns.o fZ aA (by have:=Fs.o.size;omega) ?_;intro B1 d1 v1 Jx Nj Bw;have Gm:=Hd Jx;have Ae:Below w1.heap.size w1 v1:=Fs.o.grown Nj (by have:=Fs.o.size;omega) (fun j hj=>by rw[hg];exact(Nq.o.lt j hj).1);have Ct:=Hd Ae;have a1:=(Ae.cell (p:=⟨w.heap.size,1,none⟩) pS).trans q1;have b1:=(Ae.cell (p:=⟨w.heap.size,2,none⟩) pS).trans q2;have e1:=(Ae.cell (p:=⟨w.heap.size,3,none⟩) pS).trans q3;clear Jx Nj Bw Ae;refine hK.out _ _ ?_ (fun hHeld=>?_);· exact⟨a1,b1,e1⟩
     clear hK K
     (try simp only[Act.put,Yd,Ye,Yf])
     refine Xj (rs:=[6]) aE aC ?_;refine Zn bC (fun K hK=>?_) ?_
     . refine zG bC _ _ _ bC (w.heap.size+1) 130 i0 z0 6 72 Tryz.underlying66 hi Co Cm Cr Nk aF (.slice B1 (0+n1) d1) (0+n1) ([]++f1) bC Gm.o A2 n2 c2 f2 bC (by rw[Ny.o]) Cn.o.1 (fun ad e j u hu=>by have h:=Cn.o.2 ad e j u hu;exact(Ct.o.cell (Yi _ _ h)).trans h) Je.o fZ aA (by have:=Ct.o.size;omega) ?_;intro B2 d2 v2 Hb Nh Nl;have Cj:=Hd Hb;have Bs:Below w1.heap.size w1 v2:=Ct.o.grown Nh (by have:=Ct.o.size;omega) (fun j hj=>by rw[hg];exact(Gm.o.lt j hj).1);have Ha:=Hd Bs;have a2:=(Bs.cell (p:=⟨w.heap.size,1,none⟩) pS).trans q1;have b2:=(Bs.cell (p:=⟨w.heap.size,2,none⟩) pS).trans q2;have e2:=(Bs.cell (p:=⟨w.heap.size,3,none⟩) pS).trans q3;clear Hb Nh Nl Bs;refine hK.out _ _ ?_ (fun hHeld=>?_);· exact⟨a2,b2,e2⟩
       clear hK K
       (try simp only[Act.put,Yd,Ye,Yf])
       refine Xj (rs:=[9]) aE aC ?_;refine Zn bC (fun K hK=>?_) ?_
       . refine zG bC _ _ _ bC (w.heap.size+1) 130 i0 z0 6 72 Tryz.underlying66 hi Co Cm Cr Nk aF (.slice B2 (0+n1+n2) d2) (0+n1+n2) ([]++f1++f2) bC Cj.o A3 n3 c3 f3 bC (by rw[Nz.o]) Np.o.1 (fun ad e j u hu=>by have h:=Np.o.2 ad e j u hu;exact(Ha.o.cell (Yi _ _ h)).trans h) Ob.o fZ aA (by have:=Ha.o.size;omega) ?_;intro B3 d3 v3 Hc Ni Nm;have Dm:=Hd Hc;have Aq:Below w1.heap.size w1 v3:=Ha.o.grown Ni (by have:=Ha.o.size;omega) (fun j hj=>by rw[hg];exact(Cj.o.lt j hj).1);have Nn:=Hd Aq;have a3:=(Aq.cell (p:=⟨w.heap.size,1,none⟩) pS).trans q1;have b3:=(Aq.cell (p:=⟨w.heap.size,2,none⟩) pS).trans q2;have e3:=(Aq.cell (p:=⟨w.heap.size,3,none⟩) pS).trans q3;clear Hc Ni Nm Aq;refine hK.out _ _ ?_ (fun hHeld=>?_);· exact⟨a3,b3,e3⟩
         clear hK K
         (try simp only[Act.put,Yd,Ye,Yf])
         refine Xj (rs:=[10]) aE aC ?_;refine Zn bC (fun K hK=>?_) ?_
         . go_simp;refine hK.out _ _ ?_ (fun hHeld=>?_);· exact⟨a3,b3,e3⟩
           clear hK K
           (try simp only[Act.put,Yd,Ye,Yf])
           refine wpAnyH_done aE ?_ _;go_wp2_with fail;go_ret;have hw:=Dm.o;rw[List.nil_append,<-Nu.o,Nat.zero_add,<-Ng]at hw;obtain⟨A,c,e,hR⟩:=cY.of_own hw aA;refine⟨A,c,?_,hR,Ac.o.trans (Nn.o.mono aA)⟩;rw[<-e,Ng];rfl
         exact Zo
       exact Zo
     exact Zo
   exact Zo
 exact Zo
end
section
open Go.RowKit
def tY(d:Dc):Prop:=d.nm.size<=maxLen/\d.on.size<=maxLen/\d.ct.size<=maxLen
theorem zU(w:World)(d:Dc)(w1:World)(h:w.alloc (.cells (gG d) 130)=w1):
 Below w.heap.size w w1/\w1.heap.size=w.heap.size+1/\∀w',Below w1.heap.size w1 w'->∀j,w'.cell? ⟨w.heap.size,j,none⟩=(gG d)[j]?:=by
 subst h;refine⟨(Yg _ _).alloc (Yh _) _,by simp,fun w' hb j=>?_⟩;rw[hb.cell (p:=⟨w.heap.size,j,none⟩) aC,Zs]
theorem fT{w w1 w2:World}(h:Below w.heap.size w w1)(hb:Below w1.heap.size w1 w2):Below w.heap.size w w2:=h.tr hb
theorem bV3(A:OA)(n c:Nat)(d:Dc)(w:World)(hn:n<=9223372036854775807)(Ax:tY d):
 Calls Tryz.prog 69 #[.slice A n c,.agg (gG d)] w fun e w'=>e=.returned (.bool (gD n bK d))/\Below w.heap.size w w':=by
 obtain⟨Fo,Bs,Aq⟩:=Ax;unfold maxLen at Fo Bs Aq;have HF:=Hd fun w1 h=>zU w d w1 h;have HE:=Hd (show gD n bK d=(aQ d.nm.data.toList && bK n d.k d.e d.l && (((d.on.toList==[]) && (d.ct.toList==[])) || (aQ d.on.data.toList && sO d.ct))) by simp only [Zf];rfl);have Ae:=Hd fun w1=>rV d.nm w1 aA;have Cp:=Hd fun w1=>rV d.on w1 aA;have He:=Hd fun w1=>bR5 d.ct w1 aA;have Aa:=Hd fun w1=>aTm A n c d.k d.e d.l w1 hn;unfold vO at Aa;have Gg:=Hd (show(d.on.toList==[])=true->aQ d.on.data.toList=false by
  intro h;rw[Zf]at h;rw[eq_of_beq h]
  rfl)
 unfold gG;generalize gD n bK d=Ct at *;go_in
 go_upto_region 1 with(fail);generalize Af:w.alloc _=w1;obtain⟨Ab,hg,hcell⟩:=HF.o w1 Af;have Ac:=Hd Ab;have HC:=Hd hcell;have q0:=hcell w1 (Yg _ _) 0;simp only[gG,List.getElem?_toArray,Zd,Ze]at q0 HC;clear Af hcell Ab HF;generalize d.nm=x0 at *;generalize d.on=x4 at *;generalize d.ct=x5 at *;generalize d.k=tk at *;generalize d.e=te at *;generalize d.l=tl at *;cases h0:aQ x0.data.toList with
 |false=>
  rw[h0]at HE;go_wp2_with fail;refine(Ae.o w1).mono ?_;rw[h0];rintro e w2 ⟨rfl,hb⟩;have Ai:=Hd (fT Ac.o hb);clear hb;exact aJt
 |true=>
  rw[h0]at HE;go_wp2_with fail;refine(Ae.o w1).mono ?_;rw[h0];rintro e w2 ⟨rfl,hb⟩;have Cj:=Hd hb;have Ai:=Hd (fT Ac.o hb);clear hb;clear q0;obtain⟨-,q1,q2,q3,-,-⟩:=Sx (HC.o w2 Cj.o);simp only[Ya,Yb,Yc]at q1 q2 q3;cases h1:bK n tk te tl with
  |false=>
   rw[h1]at HE;go_wp2_with fail;refine(Aa.o w2).mono ?_;rw[h1];rintro e w3 ⟨rfl,hb⟩;have Aj:=Hd (fT Ai.o hb);clear hb;exact wM
  |true=>
   rw[h1]at HE;go_wp2_with fail;refine(Aa.o w2).mono ?_;rw[h1];rintro e w3 ⟨rfl,hb⟩;have Dm:=Hd (fT Cj.o hb);have Aj:=Hd (fT Ai.o hb);clear hb;have q4:=HC.o w3 Dm.o 4;have q5:=HC.o w3 Dm.o 5;simp only[Ya,Yb,Yc]at q4 q5;cases h3:(x4.toList==[])with
   |true=>
    have h4:=Gg.o h3;rw[h3,h4]at HE;cases h6:(x5.toList==[])with
    |true=>
     rw[h6]at HE;exact wM
    |false=>
     rw[h6]at HE;exact bG8
   |false=>
    rw[h3]at HE;cases h4:aQ x4.data.toList with
    |false=>
     rw[h4]at HE;exact bG8
    |true=>
     rw[h4]at HE;go_wp2_with fail;refine(Cp.o w3).mono ?_;rw[h4];rintro e w4 ⟨rfl,hb⟩;have Es:=Hd (fT Dm.o hb);have Bd:=Hd (fT Aj.o hb);clear hb;clear q4 q5;have q4:=HC.o w4 Es.o 4;have q5:=HC.o w4 Es.o 5;simp only[Ya,Yb,Yc]at q4 q5;cases h5:sO x5 with
     |true=>
      exact bIb
     |false=>
      exact bIb
end
section
open Go Go.Sort
section
variable {P:Program}{md:Region.Mode}{C:World->Prop}{Q:Exit->Act->World->Prop}{l1 l2:List Oper}
def aAw(md:Region.Mode)(l1:List Oper):Bool:=
 (List.range l1.length).all fun i=>((l1[i]?).map fun o=>(o.after.all fun e=>!Region.binds md e || decide (e.on<i)) && ((o.guard.map fun g=>decide (g.1<l1.length)).getD true)).getD true
def aJ8(md:Region.Mode)(n:Nat)(l2:List Oper):Bool:=
 l2.all fun o=>(List.range n).all fun i=>o.after.any fun e=>Region.binds md e && e.on==i
theorem aL0(h:aAw md l1=true){i:Nat}{o:Oper}(ho:l1[i]?=some o):∀e∈o.after,Region.binds md e=true->e.on<i:=by
 intro e he hb;have hi:i<l1.length:=(List.getElem?_eq_some_iff.1 ho).1;have h1:=Zj.1 h i (List.mem_range.2 hi);simp only[ho,Option.map_some,Yv,Yu]at h1;have h2:=Array.all_eq_true_iff_forall_mem.1 h1.1 e he;simpa[hb]using h2
theorem bLo(h:aAw md l1=true){i:Nat}{o:Oper}(ho:l1[i]?=some o){g:Nat × Bool}(hg:o.guard=some g):g.1<l1.length:=by
 have hi:i<l1.length:=(List.getElem?_eq_some_iff.1 ho).1;have h1:=Zj.1 h i (List.mem_range.2 hi);simp only[ho,hg,Option.map_some,Yv,Yu,decide_eq_true_eq]at h1;exact h1.2
theorem bLp{n:Nat}(h:aJ8 md n l2=true){o:Oper}(ho:o∈l2){i:Nat}(hi:i<n):∃e∈o.after,Region.binds md e=true/\e.on=i:=by
 have h1:=Zj.1 (Zj.1 h o ho) i (List.mem_range.2 hi);obtain⟨e,he,h2⟩:=Array.any_eq_true'.1 h1;simp only[Yu,beq_iff_eq]at h2;exact⟨e,he,h2.1,h2.2⟩
def qW(L:Array Bool)(m:Nat):Array Bool:=L++Array.replicate m false
theorem aHm{L:Array Bool}{m i:Nat}(h:i<L.size)(d:Bool):(qW L m).getD i d=L.getD i d:=by
 have h':i<L.size+m:=aA;simp[qW,Array.getD,h,h']
theorem bR6{L:Array Bool}{m i:Nat}(h:i<L.size):(qW L m).setIfInBounds i true=qW (L.setIfInBounds i true) m:=by
 unfold qW;rw[Array.setIfInBounds_append_left nZ]
theorem aM7{i:Nat}(h:i<l1.length):(l1++l2).toArray[i]?=l1[i]?:=by simp[List.getElem?_append_left h]
theorem aTq(hH:aAw md l1=true){L:Array Bool}(hL:L.size=l1.length){i m:Nat}(hi:i<l1.length):
 i∈Region.ready md (l1++l2).toArray (qW L m)↔i∈Region.ready md l1.toArray L:=by
 rw[mem_ready,mem_ready,aHm aA,aM7 hi];constructor
 . rintro ⟨h1,o,ho,Aa⟩;refine⟨h1,o,by simpa using ho,fun e he hb=>?_⟩;have Ah:=aL0 hH ho e he hb
   have:=Aa e he hb
   rwa[aHm aA]at this
 . rintro ⟨h1,o,ho,Aa⟩;have Ae:l1[i]?=some o:=by simpa using ho
   refine⟨h1,o,Ae,fun e he hb=>?_⟩;have Ah:=aL0 hH Ae e he hb;rw[aHm aA];exact Aa e he hb
theorem bLq(hH:aAw md l1=true){L:Array Bool}(hL:L.size=l1.length)(h:Region.ready md l1.toArray L=[]):∀i,i<l1.length->L.getD i false=true:=by
 intro i;induction i using Nat.strongRecOn with
 |_ i ih=>
  intro hi;cases hl:L.getD i false with
  |true=>rfl
  |false=>
   have hm:i∈Region.ready md l1.toArray L:=by
    refine mem_ready.2 ⟨getD_in aA hl,l1[i],by simp[hi],fun e he hb=>?_⟩;have Ah:=aL0 hH (Yk hi) e he hb;exact ih e.on Ah aA
   rw[h]at hm;cases hm
theorem bV4{L:Array Bool}{n:Nat}(hL:L.size=n)(h:∀i,i<n->L.getD i false=true):L=Array.replicate n true:=by
 apply Array.ext;· simp[hL]
 . intro i h1 h2
   have:=h i aA
   simp[Array.getD,h1]at this;simp[this]
theorem bLr{n m:Nat}(hT:aJ8 md n l2=true)(hn:l1.length=n){L:Array Bool}(hL:L.size=n){t:Nat}(ht:n<=t)(hr:t∈Region.ready md (l1++l2).toArray (qW L m)):∀i,i<n->L.getD i false=true:=by
 intro i hi;obtain⟨_,o,ho,Aa⟩:=mem_ready.1 hr;have Aq:o∈l2:=by
  have:l2[t-n]?=some o:=by
   rw[List.getElem?_toArray,List.getElem?_append_right aA,hn]at ho;exact ho
  exact List.mem_of_getElem? this
 obtain⟨e,he,hb,Ae⟩:=bLp hT Aq hi
 have:=Aa e he hb
 rw[Ae,aHm aA]at this;exact this
theorem aTr{Aa:Array Oper}:∀(f:Nat)(L:Array Bool)(a:Act)(w:World),wpAny P md Aa Q f L a w->wpAny P md Aa Q (f+1) L a w
 |0,_,_,_,h=>⟨fun _=>h.2,fun i hi=>by rw[h.1]at hi;cases hi⟩
 |f+1,_,_,_,h=>⟨h.1,fun i hi=>wpOp_mono (fun a' w' h'=>aTr f _ a' w' h') (h.2 i hi)⟩
theorem bLs{Aa:Array Oper}{L:Array Bool}{a:Act}{w:World}(f m:Nat)(h:wpAny P md Aa Q m L a w):wpAny P md Aa Q (f+m) L a w:=by
 induction f with
 |zero=>rwa[Nat.zero_add]
 |succ f ih=>rw[Nat.add_right_comm];exact aTr _ _ _ _ ih
theorem bV5(hH:aAw md l1=true){i:Nat}(hi:i<l1.length){K:Act->Prop}{K':Act->World->Prop}{a:Act}{w:World}(hC:C w)(hK:∀a w',C w'->K a->K' a w')
 (h:qOp P l1.toArray C i K a):wpOp P (l1++l2).toArray Q i K' a w:=by
 have ho:l1[i]?=some l1[i]:=Yk hi;unfold qOp at h;unfold wpOp;rw[aM7 hi,ho];rw[List.getElem?_toArray,ho]at h;simp only at h⊢;have hw:Region.wanted l1[i] (yielded l1.toArray a.tmps)=Region.wanted l1[i] (yielded (l1++l2).toArray a.tmps):=by
  unfold Region.wanted;cases hg:l1[i].guard with
  |none=>rfl
  |some g=>
   have:=bLo hH ho hg
   unfold yielded;simp only[aM7 this,List.getElem?_toArray]
 rw[<-hw];split
 . rename_i hx;rw[if_pos hx]at h;exact .inl (Oper.wp_of_quiet hC hK h)
 . rename_i hx;rw[if_neg hx]at h;exact hK _ _ hC h
theorem bLt(hH:aAw md l1=true)(hT:aJ8 md l1.length l2=true)
 (hS:Region.seqB md (l1++l2).toArray l2.length l1.length (qW (Array.replicate l1.length true) l2.length)=true):
 ∀(f:Nat)(L:Array Bool)(a:Act)(w:World),L.size=l1.length->C w->
  wpAnyQ P md l1.toArray C (fun a'=>∀w',C w'->wpList P (l1++l2).toArray Q l2 a' w') f L a->
  wpAny P md (l1++l2).toArray Q (f+l2.length) (qW L l2.length) a w:=by
 have Aa:∀(L:Array Bool)(a:Act)(w:World),L.size=l1.length->C w->Region.ready md l1.toArray L=[]->(∀w',C w'->wpList P (l1++l2).toArray Q l2 a w')->
  wpAny P md (l1++l2).toArray Q l2.length (qW L l2.length) a w:=by
  intro L a w hL hC hr h;rw[bV4 hL (bLq hH hL hr)];exact wpAny_of_seq l2 l1.length _ a w (fun j=>by simp[List.getElem?_append_right (show l1.length<=l1.length+j by omega)]) hS (h w hC)
 intro f;induction f with
 |zero=>
  intro L a w hL hC h;rw[Nat.zero_add];exact Aa L a w hL hC h.1 h.2
 |succ f ih=>
  intro L a w hL hC h;by_cases hr:Region.ready md l1.toArray L=[];· exact bLs _ _ (Aa L a w hL hC hr (h.1 hr))
  . rw[Nat.add_right_comm];obtain⟨i0,Ae⟩:=List.exists_mem_of_ne_nil _ hr
    have Ah:∀i,i∈Region.ready md l1.toArray L->i<l1.length:=fun i hi=>by
     obtain⟨_,o,ho,_⟩:=mem_ready.1 hi;simpa using (Ym.1 ho).1
    refine⟨fun h0=>?_,fun i hi=>?_⟩
    . have:=(aTq (l2:=l2) hH hL (m:=l2.length) (Ah _ Ae)).2 Ae
      rw[h0]at this;cases this
    . have Aq:i<l1.length:=by
       rcases Nat.lt_or_ge i l1.length with h1|h1;· exact h1
       . have:=bLr hT rfl hL h1 hi i0 (Ah _ Ae)
         rw[getD_both (mem_ready.1 Ae).1]at this;cases this
      have Bs:=(aTq (l2:=l2) hH hL (m:=l2.length) Aq).1 hi;rw[bR6 aA];exact bV5 hH Aq hC (fun a' w' Ct hK=>ih _ a' w' (by simp[hL]) Ct hK) (h.2 i Bs)
theorem uD{id:Nat}{a:Act}{w:World}(hm:P.follows .mixedOrders=true)(hB:Region.lexB .any l1.toArray=true)(hH:aAw .any l1=true)(hT:aJ8 .any l1.length l2=true)
 (hS:Region.seqB .any (l1++l2).toArray l2.length l1.length (qW (Array.replicate l1.length true) l2.length)=true)
 (h:wpQuiet P l1.toArray (fun w'=>∃p:Regrown,w'=grow (redrawn w p.d) p.os) (fun a'=>∀w',(∃p:Regrown,w'=grow (redrawn w p.d) p.os)->wpList P (l1++l2).toArray Q l2 a' w') l1 a):
 (Code.region id (l1++l2).toArray true).wp P Q a w:=by
 simp only[Region.lexB,Yu]at hB;have h1:=wpAnyQ_lex (C:=fun w'=>∃p:Regrown,w'=grow (redrawn w p.d) p.os) (md:=.any) hB.1 l1 0 (Array.replicate l1.toArray.size false) a aC (by simpa using hB.2) h;refine wp_region_any hm ?_;have h2:=bLt (C:=fun w'=>∃p:Regrown,w'=grow (redrawn w p.d) p.os) (Q:=Q) hH hT hS l1.length (Array.replicate l1.length false) a { w with drawn:=w.drawn+1 } aC ⟨⟨w.drawn+1,#[]⟩,by rw[grow_empty];rfl⟩ (by rw[<-List.size_toArray];exact h1);have e1:(l1++l2).toArray.size=l1.length+l2.length:=aC;have e2:Array.replicate (l1++l2).toArray.size false=qW (Array.replicate l1.length false) l2.length:=by
  rw[e1];unfold qW;rw[Array.replicate_append_replicate]
 rw[e2,e1];exact h2
end
end
section
open Go.RowKit
def aK2:ByteArray:=⟨#[105,110,116]⟩
def aF8:ByteArray:=⟨#[98,111,111,108]⟩
def aA5(l:Int):ByteArray:=⟨#[(48+l).toNat.toUInt8]⟩
def oU(es:List En)(k e:Int):ByteArray:=if k=1 then aK2 else if k=2 then aF8 else cM es e.toNat
def mS(es:List En)(k e l:Int):ByteArray:=
 if bK es.length k e l=true then(if l=0 then oU es k e else oU es k e++(⟨#[91]⟩:BA)++aA5 l++(⟨#[93]⟩:BA))else⟨#[]⟩
theorem aEx{a b:BA}(h:a=b):Ending.returned (.string a)=.returned (.string b):=by rw[h]
theorem zK{n:Nat}{k e l:Int}(h:bK n k e l=true):(0<=l/\l<=8)/\(k=1\/k=2\/(k=3/\∃m:Nat,e=m/\m<n)):=by
 simp only[bK,Yu,decide_eq_true_eq]at h;obtain⟨h1,h2⟩:=h;refine⟨h1,?_⟩;split at h2
 . rename_i hk;rcases hk with h|h;· exact .inl h
   . exact .inr (.inl h)
 . simp at h2;exact .inr (.inr ⟨h2.1,e.toNat,by omega,by omega⟩)
def tE(es:List En):Prop:=∀i,i<es.length->(cM es i).size<=100
theorem aVd{es:List En}{k e l:Int}(h:tE es)(hr:bK es.length k e l=true):(oU es k e).size<=100:=by
 obtain⟨_,hk⟩:=zK hr;rcases hk with rfl|rfl|⟨rfl,m,rfl,hm⟩
 . show aK2.size<=100;decide
 . show aF8.size<=100;decide
 . have:=h m hm
   simpa[oU]using this
theorem aWw(l:Int):(aA5 l).size=1:=rfl
section
variable {es:List En}{k e l:Int}
theorem aY1(h:bK es.length k e l=false):mS es k e l=⟨#[]⟩:=by simp[mS,h]
theorem bN2(h:bK es.length k e 0=true):mS es k e 0=oU es k e:=by simp[mS,h]
theorem bN3(h:bK es.length k e l=true)(hl:¬l=0):mS es k e l=oU es k e++(⟨#[91]⟩:BA)++aA5 l++(⟨#[93]⟩:BA):=by simp[mS,h,hl]
end
theorem bV6(A:OA)(n c:Nat)(k e l:Int)(w:World)(hn:n<=9223372036854775807):
 Calls Tryz.prog 105 #[.slice A n c,vO k e l] w fun r w'=>r=.returned (.bool (bK n k e l))/\Below w.heap.size w w':=by
 unfold vO;have HB:=Hd ((Yg w.heap.size w).alloc (Yh _) (.cells #[.int .i64 k,.int .i64 e,.int .i64 l] 128));by_cases h1:l<0
 . go_in
   go_wp2_with fail;go_ret;exact⟨aO (aHk (.inl h1)).symm,HB.o⟩
 . by_cases h2:8<l
   . go_in
     go_wp2_with fail;go_ret;exact⟨aO (aHk (.inr h2)).symm,HB.o⟩
   . have hl:0<=l/\l<=8:=by omega
     have HL:=Hd hl;clear hl;by_cases k1:k=1
     . have HE:=Hd (aHb (n:=n) (e:=e) HL.o (.inl k1));subst k1;exact aPq
     . by_cases k2:k=2
       . have HE:=Hd (aHb (n:=n) (e:=e) HL.o (.inr k2));subst k2;exact aPq
       . by_cases k3:k=3
         . have HE:=Hd (aTk (n:=n) (e:=e) HL.o k3);exact bCe
         . have HE:=Hd (aTl (n:=n) (e:=e) (l:=l) aA k3);have b1:(k==1)=false:=by simpa using k1
           have b2:(k==2)=false:=by simpa using k2
           have b3:(k==3)=false:=by simpa using k3
           go_in
           go_wp2_with fail;go_ret;exact⟨aO HE.o.symm,HB.o⟩
theorem bN4{w:World}{A:OA}{c:Nat}{l:Int}(h:Rd .u8 w A 1 c [48+l])(h0:0<=l)(h9:l<10):
 (convert 237 9 (.slice A 1 c)).run Tryz.prog w=.ok (.string (aA5 l)) w:=by
 obtain⟨b,off,rfl,hb,hc⟩:=h.at_ (i:=0) aA
 have:=run_convert_bytes_arg w _ _ Tryz.underlying237 Tryz.underlying5 b off 1 c [48+l] h.len (fun i hi=>by rw[hc i hi,List.getD_eq_getElem?_getD]) _ Tryz.underlying9
 rw[this];rfl
theorem bN5(A:OA)(n c:Nat)(es:List En)(k e l:Int)(w:World)(hE:cQ w A n es)(Fj:tE es):
 Calls Tryz.prog 177 #[.slice A n c,vO k e l] w fun r w'=>r=.returned (.string (mS es k e l))/\Below w.heap.size w w':=by
 have HB:=Hd ((Yg w.heap.size w).alloc (Yh _) (.cells #[.int .i64 k,.int .i64 e,.int .i64 l] 128));have Jj:=Hd (hE.alloc (.cells #[.int .i64 k,.int .i64 e,.int .i64 l] 128));have Aa:=hE.len;have Fs:=hE.max;have Ae:=Hd fun(W:World)=>aTm A n c k e l W Fs;rw[<-Aa]at Ae;cases hr:bK es.length k e l with
 |false=>
  have HT:=Hd (aY1 hr);rw[hr]at Ae;unfold vO at Ae⊢;clear hE;go_in
  go_wp2_with fail;rw[<-Aa];refine(Ae.o _).mono ?_;rintro r w1 ⟨rfl,Ab⟩;have Ac:=Hd (HB.o.tr Ab);clear Ab;go_wp2_with fail;go_ret;exact⟨aEx HT.o.symm,Ac.o⟩
 |true=>
  rw[hr]at Ae;obtain⟨hl,hk⟩:=zK hr;have Bs:=aVd Fj hr;have hT:mS es k e l=if l=0 then oU es k e else oU es k e++(⟨#[91]⟩:BA)++aA5 l++(⟨#[93]⟩:BA):=by simp only[mS,hr,if_true]
  have Ha:=aWw l;have Aq:=Hd fun(m:Nat)(he:e=m)(hm:m<n)=>(Jj.o.at_ hm);have Ko:=Hd fun(W:World)(A:OA)(c:Nat)(h:Rd .u8 W A 1 c [48+l])=>bN4 h hl.1 aA;have Lk:=Hd fun(W:World)(T:TypeId)=>Rd.lit .u8 W T [48+l] 1 rfl aA bFr #[.int .u8 (48+l)] rfl;have Af:IntKind.i64.wrap (48+l)=48+l:=IntWalk.i64_in _ aA;have Hc:IntKind.u8.wrap (48+l)=48+l:=by rw[IntKind.wrap_u8];omega
  generalize aA5 l=d at hT Ha Ko;unfold vO at Ae⊢;clear hE;rcases hk with rfl|rfl|⟨rfl,m,rfl,hm⟩
  . go_in
    go_wp2_with fail;rw[<-Aa];refine(Ae.o _).mono ?_;rintro r w1 ⟨rfl,Ab⟩;have q0:=(Ab.cell (p:=⟨w.heap.size,0,none⟩) aC).trans (by simp[go_sem]:(w.alloc (.cells #[.int .i64 1,.int .i64 e,.int .i64 l] 128)).cell? ⟨w.heap.size,0,none⟩=some (.int .i64 1));have q1:=(Ab.cell (p:=⟨w.heap.size,1,none⟩) aC).trans (by simp[go_sem]:(w.alloc (.cells #[.int .i64 1,.int .i64 e,.int .i64 l] 128)).cell? ⟨w.heap.size,1,none⟩=some (.int .i64 e));have q2:=(Ab.cell (p:=⟨w.heap.size,2,none⟩) aC).trans (by simp[go_sem]:(w.alloc (.cells #[.int .i64 1,.int .i64 e,.int .i64 l] 128)).cell? ⟨w.heap.size,2,none⟩=some (.int .i64 l));exact bG3
  . go_in
    go_wp2_with fail;rw[<-Aa];refine(Ae.o _).mono ?_;rintro r w1 ⟨rfl,Ab⟩;have q0:=(Ab.cell (p:=⟨w.heap.size,0,none⟩) aC).trans (by simp[go_sem]:(w.alloc (.cells #[.int .i64 2,.int .i64 e,.int .i64 l] 128)).cell? ⟨w.heap.size,0,none⟩=some (.int .i64 2));have q1:=(Ab.cell (p:=⟨w.heap.size,1,none⟩) aC).trans (by simp[go_sem]:(w.alloc (.cells #[.int .i64 2,.int .i64 e,.int .i64 l] 128)).cell? ⟨w.heap.size,1,none⟩=some (.int .i64 e));have q2:=(Ab.cell (p:=⟨w.heap.size,2,none⟩) aC).trans (by simp[go_sem]:(w.alloc (.cells #[.int .i64 2,.int .i64 e,.int .i64 l] 128)).cell? ⟨w.heap.size,2,none⟩=some (.int .i64 l));exact bG3
  . have Ct:m<n:=by omega
    obtain⟨b,off,rfl,hb,hc⟩:=Aq.o m rfl Ct;obtain⟨Dy,_⟩:=hc m Ct;have Dw:oU es 3 (m:Int)=cM es m:=by simp[oU]
    rw[Dw]at hT Bs;clear hc Dw;generalize cM es m=x at Dy hT Bs;have z1:(9223372036854775807<x.size+1)=False:=aW;have z2:(9223372036854775807<x.size+1+1)=False:=aW;have z3:(9223372036854775807<x.size+1+1+1)=False:=aW;go_in
    go_wp2_with fail;rw[<-Aa];refine(Ae.o _).mono ?_;rintro r w1 ⟨rfl,Ab⟩;have q0:=(Ab.cell (p:=⟨w.heap.size,0,none⟩) aC).trans (by simp[go_sem]:(w.alloc (.cells #[.int .i64 3,.int .i64 (m:Int),.int .i64 l] 128)).cell? ⟨w.heap.size,0,none⟩=some (.int .i64 3));have q1:=(Ab.cell (p:=⟨w.heap.size,1,none⟩) aC).trans (by simp[go_sem]:(w.alloc (.cells #[.int .i64 3,.int .i64 (m:Int),.int .i64 l] 128)).cell? ⟨w.heap.size,1,none⟩=some (.int .i64 (m:Int)));have q2:=(Ab.cell (p:=⟨w.heap.size,2,none⟩) aC).trans (by simp[go_sem]:(w.alloc (.cells #[.int .i64 3,.int .i64 (m:Int),.int .i64 l] 128)).cell? ⟨w.heap.size,2,none⟩=some (.int .i64 l));have Hb:=(Ab.cell (p:=⟨b,off+m*2,none⟩) hb).trans Dy;have Ev:=Ko.o (w1.alloc (.cells #[.int .u8 (48+l)] 5)) _ _ (Lk.o w1 _);have Ac:=Hd (HB.o.tr Ab);clear Ab;by_cases Ky:0<l
    . go_wp2_with fail;go_ret;exact⟨aEx (by rw[hT,if_neg aA]),Ac.o.alloc Ac.o.size _⟩
    . obtain rfl:l=0:=by omega
      go_wp2_with fail;go_ret;exact⟨aEx (by rw[hT,if_pos trivial]),Ac.o⟩
end
section
set_option maxRecDepth 100000
open Go.RowKit Go.ChangeShapes Go.WideShapes Go.Deep
theorem bR7:Tryz.prog.cellsOf 64=2:=aE
theorem bR8:Tryz.prog.cellsOf 128=3:=aE
theorem bR9:Tryz.prog.cellsOf 3=1:=aE
theorem bSa:Tryz.prog.cellsOf 9=1:=aE
theorem bN6:Tryz.prog.cellsOf 62=1:=aE
section
variable {H:Type}{enc:TypeId × Value->H}{w:World}{base:Nat}{spare:Nat->Bool}{held:Bool}
theorem bN7{fuel:Nat}{v:Value}{x:DataW H × List MemPlace}(h:DataW.trod enc Tryz.prog w base spare held fuel 62 [v]=some x):∃A n c ss,v=.slice A n c/\aS w A n ss:=by
 rcases Go.ChangeShapes.open_strings Tryz.underlying62 Tryz.underlying9 aE h with⟨hcs,_⟩|⟨x,l,c,ss,hcs,_,hl,hm,hss,_,hcell,hz⟩
 . simp at hcs;subst hcs;exact⟨none,0,0,[],rfl,aS.nil_ _⟩
 . simp at hcs;subst hcs;have Cz:l<=ss.length:=by rw[hss];split<;>omega
   exact⟨some x,l,c,ss.take l,rfl,aYo Cz (by unfold maxLen at hm;omega) hcell⟩
theorem bV7{fuel:Nat}{cs:LV}{x:DataW H × List MemPlace}(h:DataW.trod enc Tryz.prog w base spare held fuel 64 cs=some x)(hl:cs.length=2):
 ∃e:En,∃A n c,cs=[.string e.1,.slice A n c]/\aS w A n e.2:=by
 obtain⟨ys,m,_,_,_,hy,hf⟩:=DataW.trod_struct Tryz.underlying64 h
 match cs,hl with
 |[v0,v1],_=>
  match ys,hy with
  |[y0,y1],_=>
   have t0:=hf 0 _ rfl;have t1:=hf 1 _ rfl;simp[bSa,bN6]at t0 t1;obtain⟨s,e0,_,_⟩:=DataW.trod_string Tryz.underlying9 t0;obtain⟨A,n,c,ss,rfl,hr⟩:=bN7 t1;injection e0 with e0;subst e0;exact⟨(s,ss),A,n,c,rfl,hr⟩
theorem bLu{fuel:Nat}{A:OA}{n c:Nat}{x:DataW H × List MemPlace}(h:DataW.trod enc Tryz.prog w base spare held fuel 23 [.slice A n c]=some x):∃es,cQ w A n es:=by
 rcases open_slice Tryz.underlying23 h with⟨hcs,_⟩|⟨a,len,cap,m,nn,D,Pl,hcs,_,hl,hm,hmm,_,hi⟩
 . simp at hcs;obtain⟨rfl,rfl,rfl⟩:=hcs;exact⟨[],cQ.nil_ _⟩
 . simp at hcs;obtain⟨rfl,rfl,rfl⟩:=hcs;have Hb:n<=m:=by rw[hmm];split<;>omega
   have Aq:∀i,i<n->∃e:En,w.cell? (a.add (i*2))=some (.string e.1)/\∃A' n' c',w.cell? (a.add (i*2+1))=some (.slice A' n' c')/\aS w A' n' e.2:=by
    intro i Fs;obtain⟨Ha,hc,ht⟩:=hi i aA;rw[bR7]at hc;obtain⟨_,Ct,Ar⟩:=World.cells?_some hc;obtain⟨e,A',n',c',e1,hp⟩:=bV7 ht Ct;have h0:=Ar (i:=0) aA;have h1:=Ar (i:=1) aA;rw[e1]at h0 h1;rw[Go.Deep.add_add]at h0 h1;exact⟨e,by simpa using h0,A',n',c',by simpa using h1,hp⟩
   obtain⟨f,hf⟩:=choose_lt (α:=En) Aq;have Bs:∀i,i<n->((List.range n).map f)[i]?.getD (ByteArray.empty,[])=f i:=fun i hi=>by simp[List.getElem?_map,List.getElem?_range hi]
   refine⟨(List.range n).map f,by simp,by unfold maxLen at hm;omega,fun hn=>?_⟩;obtain⟨b,off,Ae⟩:=a;have h0:=(hf 0 hn).1;have Aa:Ae=none:=bGc;subst Aa;have Fd:∀i,(⟨b,off,none⟩:Addr).add i=⟨b,off+i,none⟩:=fun i=>by unfold Addr.add;split<;>simp_all
   refine⟨b,off,rfl,Yi w _ ((Fd 0) ▸ h0),fun i hi=>?_⟩;obtain⟨hc,A',n',c',h2,h3⟩:=hf i hi;rw[Fd]at hc h2;unfold cM cH;rw[Bs i hi];exact⟨hc,A',n',c',h2,h3⟩
theorem bSb{fuel:Nat}{cs:LV}{x:DataW H × List MemPlace}(h:DataW.trod enc Tryz.prog w base spare held fuel 128 cs=some x)(hl:cs.length=3):
 ∃k e l:Int,cs=[.int .i64 k,.int .i64 e,.int .i64 l]:=by
 obtain⟨ys,m,_,_,_,hy,hf⟩:=DataW.trod_struct Tryz.underlying128 h
 match cs,hl with
 |[v0,v1,v2],_=>
  match ys,hy with
  |[y0,y1,y2],_=>
   have t0:=hf 0 _ rfl;have t1:=hf 1 _ rfl;have t2:=hf 2 _ rfl;simp[bR9]at t0 t1 t2;obtain⟨k,e0,_,_⟩:=DataW.trod_int Tryz.underlying3 t0;obtain⟨e,e1,_,_⟩:=DataW.trod_int Tryz.underlying3 t1;obtain⟨l,e2,_,_⟩:=DataW.trod_int Tryz.underlying3 t2;injection e0 with e0;injection e1 with e1;injection e2 with e2;subst e0 e1 e2;exact⟨k,e,l,rfl⟩
end
end
section
open Go.RowKit
section
variable {es fs:List En}{k e l k' e' l':Int}
theorem bKd(h:dC (fL es)=true){i j:Nat}(hi:i<es.length)(hj:j<es.length)(he:cM es i=cM es j):i=j:=by
 unfold dC aJ7 at h;have h:=of_decide_eq_true h;have Ae:i<((fL es).map fun s=>s.data.toList).length:=by simp[fL];exact hi
 have Aa:j<((fL es).map fun s=>s.data.toList).length:=by simp[fL];exact hj
 have hp:=List.pairwise_iff_getElem.1 h;have a1:(es[i]'hi).1=cM es i:=by rw[aF6 hi]
 have a2:(es[j]'hj).1=cM es j:=by rw[aF6 hj]
 have Aq:((fL es).map fun s=>s.data.toList)[i]'Ae=((fL es).map fun s=>s.data.toList)[j]'Aa:=by
  simp only[fL,List.getElem_map,a1,a2,he]
 rcases Nat.lt_trichotomy i j with Ah|Ah|Ah;· exact absurd Aq (hp i j Ae Aa Ah)
 . exact Ah
 . exact absurd Aq.symm (hp j i Aa Ae Ah)
theorem aWx(h:cG es=0):uS es=false/\lA es=true/\qJ es=true:=by
 unfold cG at h;split at h;· omega
 . rename_i hm;split at h
   . rename_i hn;split at h
     . rename_i ha;exact⟨by simpa using hm,hn,ha⟩
     . omega
   . omega
theorem bAx(h:cG es=0){i:Nat}(hi:i<es.length):aQ (cM es i).data.toList=true:=by
 have h1:=(aWx h).2.1;unfold lA at h1;rw[Yu,Zj]at h1;have h2:=h1.1 _ (Zk hi);rw[aOk hi,Yu]at h2;exact h2.1
theorem bV8(h:cG es=0):dC (fL es)=true:=by
 have h1:=(aWx h).2.2;unfold qJ at h1;rw[Yu]at h1;exact h1.1
def aRl(l:Int):List UInt8:=if l=0 then []else [91,(48+l).toNat.toUInt8,93]
theorem bN8(ht:bK es.length k e l=true):(mS es k e l).data.toList=(oU es k e).data.toList++aRl l:=by
 unfold mS aRl;rw[if_pos ht];split;· simp
 . simp[aA5]
end
end
section
open Go.RowKit Go.ChangeShapes Go.WideShapes Go.Deep
mutual
def iU(w:World):Ex->Option Addr->Prop
 |.mk _ _ _ _ _ Aa,B=>∀b off,B=some ⟨b,off,none⟩->oV w Aa b off
def oV(w:World):List Ex->Nat->Nat->Prop
 |[],_,_=>True
 |x::l,b,off=>(∀A ca B cb,w.rangeAt b off (dB x A ca B cb)->(x.k=13->x.subs.length<=cb)/\iU w x B)/\oV w l b (off+6)
end
theorem aIo{w:World}{x:Ex}{B:OA}:iU w x B↔∀b off,B=some ⟨b,off,none⟩->oV w x.subs b off:=by
 cases x;simp only[iU,Ex.subs]
theorem aWy{w:World}:∀(l:List Ex){b off:Nat},oV w l b off->∀i,i<l.length->∀A ca B cb,w.rangeAt b (off+i*6) (dB (l[i]?.getD default) A ca B cb)->((l[i]?.getD default).k=13->(l[i]?.getD default).subs.length<=cb)/\iU w (l[i]?.getD default) B
 |[],_,_,_,i,hi=>absurd hi aC
 |x::l,b,off,h,i,hi=>by
  simp only[oV]at h;cases i with
  |zero=>simpa using h.1
  |succ i=>
   have:=aWy l h.2 i vG
   exact bEm
theorem aWz{w:World}:∀(l:List Ex){b off:Nat},(∀i,i<l.length->∀A ca B cb,w.rangeAt b (off+i*6) (dB (l[i]?.getD default) A ca B cb)->((l[i]?.getD default).k=13->(l[i]?.getD default).subs.length<=cb)/\iU w (l[i]?.getD default) B)->oV w l b off
 |[],_,_,_=>by simp only[oV]
 |x::l,b,off,h=>by
  simp only[oV];refine⟨by simpa using h 0 aC,aWz l fun i hi=>?_⟩;exact bDd
theorem bJs{w w':World}{cs:LV}{b o:Nat}(h:w'.rangeAt b o cs)(hb:b<w.heap.size)(hk:∀p:Addr,p.block<w.heap.size->w'.cell? p=w.cell? p):w.rangeAt b o cs:=fun j v hv=>(hk _ hb).symm.trans (h j v hv)
theorem aW0{w:World}{b o:Nat}{x:Ex}{A A':OA}{ca Ae:Nat}{B B':OA}{cb Aa:Nat}(h:w.rangeAt b o (dB x A ca B cb))(h':w.rangeAt b o (dB x A' Ae B' Aa)):A=A'/\B=B'/\cb=Aa:=by
 have h1:=(h 4 _ rfl).symm.trans (h' 4 _ rfl);have h2:=(h 5 _ rfl).symm.trans (h' 5 _ rfl);injection h1 with h1;injection h1 with h1 _ _;injection h2 with h2;injection h2 with h2 _ h3;exact⟨h1,h2,h3⟩
mutual
theorem aMk{w w':World}(hk:∀p:Addr,p.block<w.heap.size->w'.cell? p=w.cell? p):∀(x:Ex)(A B:OA),aM w x A B->iU w x B->iU w' x B
 |.mk k n s op Aq Aa,A,B,hr,h=>by
  simp only[aM]at hr;simp only[iU]at h⊢;intro b off e;cases Aa with
  |nil=>simp only[oV]
  |cons y l=>
   obtain⟨b',It,e',hb,Ae⟩:=hr.2.2 aC;rw[e]at e';injection e' with e';injection e' with e1 e2;subst e1 e2;exact aTs hk (y::l) b off hb Ae (h b off e)
theorem aTs{w w':World}(hk:∀p:Addr,p.block<w.heap.size->w'.cell? p=w.cell? p):∀(l:List Ex)(b off:Nat),b<w.heap.size->iT w l b off->oV w l b off->oV w' l b off
 |[],_,_,_,_,_=>by simp only[oV]
 |x::l,b,off,hb,hr,h=>by
  simp only[iT]at hr;simp only[oV]at h⊢;obtain⟨⟨A0,Aq,B0,Ae,h1,h2⟩,h3⟩:=hr;refine⟨fun A ca B cb hg=>?_,aTs hk l b (off+6) hb h3 h.2⟩;have Aa:=bJs hg hb hk;obtain⟨q1,q2⟩:=h.1 A ca B cb Aa;obtain⟨e1,e2,_⟩:=aW0 Aa h1;subst e1 e2;exact⟨q1,aMk hk x A B h2 q2⟩
end
theorem iU.below{w w':World}{x:Ex}{A B:OA}(h:iU w x B)(hr:aM w x A B)(hb:Below w.heap.size w w'):iU w' x B:=aMk (fun _ hp=>hb.cell hp) x A B hr h
theorem aM.subC{w:World}{x:Ex}{A B:OA}(h:aM w x A B)(hc:iU w x B){i:Nat}(hi:i<x.subs.length):
 ∃b off,B=some ⟨b,off,none⟩/\b<w.heap.size/\∀i,i<x.subs.length->∃A' ca B' cb,w.rangeAt b (off+i*6) (dB (bI x i) A' ca B' cb)/\aM w (bI x i) A' B'/\((bI x i).k=13->(bI x i).subs.length<=cb)/\iU w (bI x i) B':=by
 obtain⟨b,off,e,hb,Ar⟩:=h.sub hi;refine⟨b,off,e,hb,fun i hi=>?_⟩;obtain⟨A',ca,B',cb,Aa,Ae⟩:=Ar i hi;exact⟨A',ca,B',cb,Aa,Ae,aWy x.subs ((aIo.1 hc) b off e) i hi A' ca B' cb Aa⟩
section
variable {H:Type}{enc:TypeId × Value->H}{w:World}{base:Nat}{spare:Nat->Bool}{held:Bool}
theorem bN9:∀(fuel:Nat){cs:LV}{x:DataW H × List MemPlace},DataW.trod enc Tryz.prog w base spare held fuel 79 cs=some x->cs.length=6->
 ∃(X:Ex)(A:OA)(ca:Nat)(B:OA)(cb:Nat),cs=dB X A ca B cb/\aM w X A B/\sU X/\X.subs.length<=cb/\iU w X B:=by
 intro fuel;induction fuel using Nat.strongRecOn with
 |_ fuel ih=>
 intro cs x h hl;obtain⟨ys,m,hm,_,_,hy,hf⟩:=DataW.trod_struct Tryz.underlying79 h
 match cs,hl with
 |[v0,v1,v2,v3,v4,v5],_=>
  match ys,hy with
  |[y0,y1,y2,y3,y4,y5],_=>
   have t0:=hf 0 _ rfl;have t1:=hf 1 _ rfl;have t2:=hf 2 _ rfl;have t3:=hf 3 _ rfl;have t4:=hf 4 _ rfl;have t5:=hf 5 _ rfl;simp[bVo,bVp,aNt,aWr,bRn]at t0 t1 t2 t3 t4 t5;obtain⟨k,e0,_,w0⟩:=DataW.trod_int Tryz.underlying3 t0;obtain⟨n,e1,_,w1⟩:=DataW.trod_int Tryz.underlying2 t1;obtain⟨s,e2,_,w2⟩:=DataW.trod_string Tryz.underlying9 t2;obtain⟨op,e3,_,w3⟩:=DataW.trod_int Tryz.underlying3 t3;injection e0 with e0;injection e1 with e1;injection e2 with e2;injection e3 with e3;subst e0 e1 e2 e3;obtain⟨A,na,ca,ss,rfl,hr,hz⟩:=aTf t4;have Ni:=hr.len;subst Ni;rcases DataW.trod_slice Tryz.underlying77 t5 with⟨hcs,_⟩|⟨a,len,cap,elems,rest,nn,hnn,hcs,_,_,hlc,hcm,hel,hi,_,_⟩
   . simp at hcs;subst hcs;refine⟨.mk k n s op ss [],A,ca,none,0,rfl,?_,?_,Yh _,aIo.2 (by intro b off e;cases e)⟩
     . rw[aAi];exact⟨hr,gK.nil_ _⟩
     . intro p hp;simp only[bP,eL,Yp]at hp;subst hp;exact⟨w2,hz,w0,w1,w3⟩
   . simp at hcs;subst hcs;have Fs:∀i,i<len->∃X:Ex,(∃A' Aq B' Aa,(∀j v,(dB X A' Aq B' Aa)[j]?=some v->w.cell? (a.add (i*6+j))=some v)/\aM w X A' B'/\X.subs.length<=Aa/\iU w X B')/\sU X:=by
      intro i Nk;have h1:=hi i Nk;rw[Yk aA,bRb]at h1;obtain⟨Nm,hc,ht⟩:=Option.bind_eq_some_iff.1 h1;obtain⟨_,Nl,Ar⟩:=World.cells?_some hc;obtain⟨X,A',Aq,B',Aa,e,Nh,Ax,Ha,Hc⟩:=ih nn aA ht Nl;refine⟨X,⟨A',Aq,B',Aa,fun j v hj=>?_,Nh,Ha,Hc⟩,Ax⟩;have Ng:j<6:=by
       rcases Nat.lt_or_ge j 6 with h|h;· exact h
       . rw[List.getElem?_eq_none (by simpa[dB]using h)]at hj;cases hj
      rw[<-Go.Deep.add_add,Ar j Ng,e,hj]
     obtain⟨f,Ct⟩:=choose_lt (α:=Ex) Fs;have Ae:∀i,i<len->((List.range len).map f)[i]?.getD default=f i:=fun i hi=>by simp[List.getElem?_map,List.getElem?_range hi]
     refine⟨.mk k n s op ss ((List.range len).map f),A,ca,some a,cap,by simp[dB,Ex.k,Ex.n,Ex.s,Ex.op,Ex.arms,Ex.subs],?_,?_,by simp[Ex.subs];omega,?_⟩
     . rw[aAi];refine⟨hr,rfl,by simp[Ex.subs];unfold maxLen at hcm;omega,fun hn=>?_⟩;simp only[Ex.subs,List.length_map,List.length_range]at hn;obtain⟨b,off,Hb⟩:=a;obtain⟨⟨A0,Nn,B0,No,h0,_⟩,_⟩:=Ct 0 hn;have Jx:=h0 0 _ rfl;have Bs:Hb=none:=by simpa[Addr.add]using World.cell?_spot Jx
       subst Bs;have Fd:∀i,(⟨b,off,none⟩:Addr).add i=⟨b,off+i,none⟩:=fun i=>by unfold Addr.add;split<;>simp_all
       refine⟨b,off,rfl,Yi w _ ((Fd 0) ▸ Jx),aNr _ fun i hi=>?_⟩;simp only[Ex.subs,List.length_map,List.length_range]at hi;simp only[Ex.subs];rw[Ae i hi];obtain⟨⟨A',Aq,B',Aa,h1,h2,_⟩,_⟩:=Ct i hi;refine⟨A',Aq,B',Aa,fun j v hv=>?_,h2⟩;exact bEw
     . intro p hp;simp only[bP,Yw]at hp;rcases hp with rfl|hp;· exact⟨w2,hz,w0,w1,w3⟩
       . obtain⟨i,hi,hp⟩:=bLg hp;simp only[List.length_map,List.length_range]at hi;rw[Ae i hi]at hp;exact(Ct i hi).2 p hp
     . rw[aIo];intro b off e;obtain rfl:a=⟨b,off,none⟩:=Option.some.inj e;refine aWz _ fun i hi A1 Bu B1 Br hg=>?_;simp only[Ex.subs,List.length_map,List.length_range]at hi;simp only[Ex.subs]at hg⊢;rw[Ae i hi]at hg⊢;obtain⟨⟨A',Aq,B',Aa,h1,h2,h3,h4⟩,_⟩:=Ct i hi;have Fd:∀i,(⟨b,off,none⟩:Addr).add i=⟨b,off+i,none⟩:=fun i=>by unfold Addr.add;split<;>simp_all
       have Nj:w.rangeAt b (off+i*6) (dB (f i) A' Aq B' Aa):=fun j v hv=>by
        exact bEw
       obtain⟨e1,e2,e3⟩:=aW0 hg Nj;subst e1 e2 e3;exact⟨fun _=>h3,h4⟩
end
end
section
open Go Go.ChangeShapes Go.WideShapes Go.ChangeAt Go.RowKit
theorem rb_named:Tryz.pinned.checked.prog.funcNamed Rows.readBackRow.func=some 4:=aE
theorem rb_wrap:Tryz.f4.isWrapper Tryz.pinned.checked.prog Rows.readBackRow.wrapper Rows.readBackRow.mainSum:=by unfold Func.isWrapper;rw[if_neg (of_decide_eq_false aE)];exact⟨rfl,rfl⟩
theorem rb_inst:Tryz.f4.isInstance Tryz.pinned.checked.prog Rows.readBackRow.origin Rows.readBackRow.targs:=of_decide_eq_true aE
theorem rb_joined:joinedFacts Tryz.pinned.checked.prog 4 Tryz.f4 Rows.readBackSpec Rows.readBackRow=true:=aE
end
end Go.Proofs.YtagkcjpoipcpkaaGreatDoor
