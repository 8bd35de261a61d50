/- A part of the proof. Conditions: each theorem's own. -/
import Derived.Test.YtagkcjpoipcpkaaGreatDoorF02
namespace Go.Proofs.YtagkcjpoipcpkaaGreatDoor
set_option linter.unusedVariables false
set_option linter.unusedSimpArgs false
set_option maxRecDepth 100000
set_option maxHeartbeats 40000000
section
open Go.RowKit Go.Sort Go.ChangeShapes Go.WideShapes Go.Deep
theorem Yy:type_of% @List.append_assoc:=@List.append_assoc
theorem Zr:type_of% @List.mem_append:=@List.mem_append
end
section
open Go.RowKit
def dB(x:Ex)(A:OA)(ca:Nat)(B:OA)(cb:Nat):List Value:=
 [.int .i64 x.k,.int .i64 x.n,.string x.s,.int .i64 x.op,.slice A x.arms.length ca,.slice B x.subs.length cb]
def aJ(x:Ex)(A:OA)(ca:Nat)(B:OA)(cb:Nat):Array Value:=
 #[.int .i64 x.k,.int .i64 x.n,.string x.s,.int .i64 x.op,.slice A x.arms.length ca,.slice B x.subs.length cb]
mutual
def aM(w:World):Ex->Option Addr->Option Addr->Prop
 |.mk _ _ _ _ Ae Aa,A,B=>aS w A Ae.length Ae/\Aa.length<=9223372036854775807/\
  (0<Aa.length->∃b off,B=some ⟨b,off,none⟩/\b<w.heap.size/\iT w Aa b off)
def iT(w:World):List Ex->Nat->Nat->Prop
 |[],_,_=>True
 |x::l,b,off=>(∃A ca B cb,w.rangeAt b off (dB x A ca B cb)/\aM w x A B)/\iT w l b (off+6)
end
def gK(w:World)(A:OA)(n:Nat)(l:List Ex):Prop:=
 l.length=n/\n<=9223372036854775807/\(0<n->∃b off,A=some ⟨b,off,none⟩/\b<w.heap.size/\iT w l b off)
section
variable {w w':World}{A B:OA}{n:Nat}{x:Ex}{l:List Ex}
theorem aAi:aM w x A B↔aS w A x.arms.length x.arms/\gK w B x.subs.length x.subs:=by
 cases x;simp only[aM,gK,Ex.arms,Ex.subs,true_and]
theorem aM.arms(h:aM w x A B):aS w A x.arms.length x.arms:=(aAi.1 h).1
theorem aM.subs(h:aM w x A B):gK w B x.subs.length x.subs:=(aAi.1 h).2
theorem aNq:∀(l:List Ex){b off:Nat},iT w l b off->∀i,i<l.length->∃A ca B cb,w.rangeAt b (off+i*6) (dB (l[i]?.getD default) A ca B cb)/\aM w (l[i]?.getD default) A B
 |[],_,_,_,_,hi=>absurd hi aC
 |x::l,b,off,h,i,hi=>by
  simp only[iT]at h;cases i with
  |zero=>simpa using h.1
  |succ i=>
   have:=aNq l h.2 i vG
   exact bEm
theorem aNr:∀(l:List Ex){b off:Nat},(∀i,i<l.length->∃A ca B cb,w.rangeAt b (off+i*6) (dB (l[i]?.getD default) A ca B cb)/\aM w (l[i]?.getD default) A B)->iT w l b off
 |[],_,_,_=>by simp only[iT]
 |x::l,b,off,h=>by
  simp only[iT];refine⟨by simpa using h 0 aC,aNr l fun i hi=>?_⟩;exact bDd
theorem gK.len(h:gK w A n l):l.length=n:=h.1
theorem gK.max(h:gK w A n l):n<=9223372036854775807:=h.2.1
theorem gK.at_(h:gK w A n l){i:Nat}(hi:i<n):
 ∃b off,A=some ⟨b,off,none⟩/\b<w.heap.size/\∀i,i<n->∃A' ca B' cb,w.rangeAt b (off+i*6) (dB (l[i]?.getD default) A' ca B' cb)/\aM w (l[i]?.getD default) A' B':=by
 obtain⟨b,off,e,hb,hr⟩:=h.2.2 aA;exact⟨b,off,e,hb,fun i hi=>aNq l hr i (by rw[h.1];exact hi)⟩
theorem gK.nil_(w:World):gK w none 0 []:=⟨rfl,by omega,by omega⟩
theorem uE{cs:LV}{b o:Nat}(h:w.rangeAt b o cs)(hb:b<w.heap.size)(hk:∀p:Addr,p.block<w.heap.size->w'.cell? p=w.cell? p):w'.rangeAt b o cs:=fun j v hv=>(hk _ hb).trans (h j v hv)
mutual
theorem aWo(hs:w.heap.size<=w'.heap.size)(hk:∀p:Addr,p.block<w.heap.size->w'.cell? p=w.cell? p):∀(x:Ex)(A B:OA),aM w x A B->aM w' x A B
 |.mk _ _ _ _ Ae Aa,A,B,h=>by
  simp only[aM]at h⊢;refine⟨h.1.keep hs hk,h.2.1,fun hn=>?_⟩;obtain⟨b,off,e,hb,hr⟩:=h.2.2 hn;exact⟨b,off,e,by omega,aMe hs hk Aa b off hb hr⟩
theorem aMe(hs:w.heap.size<=w'.heap.size)(hk:∀p:Addr,p.block<w.heap.size->w'.cell? p=w.cell? p):∀(l:List Ex)(b off:Nat),b<w.heap.size->iT w l b off->iT w' l b off
 |[],_,_,_,_=>by simp only[iT]
 |x::l,b,off,hb,h=>by
  simp only[iT]at h⊢;obtain⟨⟨A,ca,B,cb,h1,h2⟩,h3⟩:=h;exact⟨⟨A,ca,B,cb,uE h1 hb hk,aWo hs hk x A B h2⟩,aMe hs hk l b (off+6) hb h3⟩
end
theorem aM.keep(h:aM w x A B)(hs:w.heap.size<=w'.heap.size)(hk:∀p:Addr,p.block<w.heap.size->w'.cell? p=w.cell? p):aM w' x A B:=aWo hs hk x A B h
theorem aM.below(h:aM w x A B)(hb:Below w.heap.size w w'):aM w' x A B:=h.keep hb.size fun _ hp=>hb.cell hp
theorem aM.alloc(h:aM w x A B)(o:Obj):aM (w.alloc o) x A B:=h.below ((Yg _ _).alloc (Yh _) o)
theorem aM.drewN(h:aM w x A B)(m:Nat):aM (w.drewN m) x A B:=h.keep (Yh _) fun _ _=>rfl
theorem aM.drew(h:aM w x A B):aM w.drew x A B:=h.keep (Yh _) fun _ _=>rfl
theorem gK.keep(h:gK w A n l)(hs:w.heap.size<=w'.heap.size)(hk:∀p:Addr,p.block<w.heap.size->w'.cell? p=w.cell? p):gK w' A n l:=
 ⟨h.1,h.2.1,fun hn=>by
  obtain⟨b,off,e,hb,hr⟩:=h.2.2 hn;exact⟨b,off,e,by omega,aMe hs hk l b off hb hr⟩⟩
theorem gK.below(h:gK w A n l)(hb:Below w.heap.size w w'):gK w' A n l:=h.keep hb.size fun _ hp=>hb.cell hp
theorem gK.alloc(h:gK w A n l)(o:Obj):gK (w.alloc o) A n l:=h.below ((Yg _ _).alloc (Yh _) o)
theorem aM.sub(h:aM w x A B){i:Nat}(hi:i<x.subs.length):
 ∃b off,B=some ⟨b,off,none⟩/\b<w.heap.size/\∀i,i<x.subs.length->∃A' ca B' cb,w.rangeAt b (off+i*6) (dB (bI x i) A' ca B' cb)/\aM w (bI x i) A' B':=h.subs.at_ hi
end
theorem jW{w:World}{b o:Nat}{x:Ex}{A:OA}{ca:Nat}{B:OA}{cb:Nat}(h:w.rangeAt b o (dB x A ca B cb)):
 w.cell? ⟨b,o,none⟩=some (.int .i64 x.k)/\w.cell? ⟨b,o+1,none⟩=some (.int .i64 x.n)/\w.cell? ⟨b,o+2,none⟩=some (.string x.s)/\w.cell? ⟨b,o+3,none⟩=some (.int .i64 x.op)/\
  w.cell? ⟨b,o+4,none⟩=some (.slice A x.arms.length ca)/\w.cell? ⟨b,o+5,none⟩=some (.slice B x.subs.length cb):=
 ⟨h 0 _ rfl,h 1 _ rfl,h 2 _ rfl,h 3 _ rfl,h 4 _ rfl,h 5 _ rfl⟩
theorem bRb:Tryz.prog.cellsOf 79=6:=aE
theorem aE6:(Tryz.prog.info? 79).map (·.size)=some 6:=aE
end
section
open Go.RowKit Go.Sort
theorem gH(w:World)(x:Ex)(A:OA)(ca:Nat)(B:OA)(cb:Nat)(w1:World)(h:w.alloc (.cells (aJ x A ca B cb) 79)=w1)(hr:aM w x A B):
 Below w.heap.size w w1/\w.heap.size<w1.heap.size/\aM w1 x A B/\∀w',Below w1.heap.size w1 w'->∀j,w'.cell? ⟨w.heap.size,j,none⟩=(aJ x A ca B cb)[j]?:=by
 subst h;refine⟨(Yg _ _).alloc (Yh _) _,by simp,hr.alloc _,fun w' hb j=>?_⟩;rw[hb.cell (p:=⟨w.heap.size,j,none⟩) aC,Zs]
theorem bVj:∀(x:Ex)(A:OA)(ca:Nat)(B:OA)(cb:Nat)(w:World),aM w x A B->aT x<=1000000->
 Calls Tryz.prog 174 #[.agg (aJ x A ca B cb)] w fun e w'=>e=.returned (.int .i64 (aT x:Nat))/\Below w.heap.size w w':=by
 refine tB fun x ih A ca B cb w hr hs=>?_;have Fs:=Hd ih;have Au:=uG x;have Gc:=Hd Au;have Nm:=hr.subs.max;have HF:=Hd fun w1 h=>gH w x A ca B cb w1 h hr;have Jx:=Hd fun i (hi:i<x.subs.length)=>aHa hi;have Bs:=Hd fun i=>aEk x.subs i;have Ae:=Hd fun i (hi:i<x.subs.length)=>aEu (zS hi);have Nk:=Hd (List.take_length (l:=x.subs));clear ih hr;unfold aJ at HF Fs⊢;generalize Aq:x.subs.length=len at *;go_in
 go_upto_region 1 with(fail);generalize Af:w.alloc _=w1;obtain⟨Ab,hg,Al,hcell⟩:=HF.o w1 Af;have HC:=Hd hcell;have Ac:=Hd Ab;have Bi:=Hd Al;clear hcell Ab Al Af HF;go_wp2_with fail;go_loopw [3,4] (fun s i wr=>∃k:Nat,k<=len/\i=.int .i64 k/\s=.int .i64 ((1+bW (x.subs.take k):Nat):Int)/\Below w1.heap.size w1 wr) (fun _ i _=>len-(intOf i).toNat)
 case atStart=>exact⟨0,Ys _,rfl,by simp[bW],Yg _ _⟩
 case round=>
  obtain⟨k,hk,rfl,rfl,Aa⟩:=hrel;have Ay:=Hd Aa;have Nl:=HC.o wr Aa 5;have Cz:=Bs.o k;by_cases Ah:k<len
  . obtain⟨b,off,rfl,hb,Ar⟩:=(Bi.o.below Aa).sub (i:=k) aA;obtain⟨A',Nh,B',Nj,Ct,Ha⟩:=Ar k aA;obtain⟨c0,c1,c2,c3,c4,c5⟩:=jW Ct;have Ng:=Hd Ha;have Hc:=Jx.o k aA;have Ni:=Bs.o (k+1);clear Ar Aa Ct Ha;have Nn:=Ae.o k aA;go_wp2_with fail;refine(Fs.o k aA A' Nh B' Nj _ Ng.o aA).mono ?_;rintro r w2 ⟨rfl,Ag⟩;have Ai:=Hd (Ay.o.tr Ag);go_wp2_with fail;go_roundw;case rel=>refine⟨k+1,by omega,by go_num,?_,Ai.o⟩;rw[Hc];go_num
    case measure=>simp[intOf];omega
  . have Hb:k=len:=by omega
    subst Hb;have HE:=Hd (Aq ▸ Nk.o:x.subs.take k=x.subs);go_wp2_with fail;go_ret;refine⟨?_,Ac.o.trans (Ay.o.mono (Nat.le_of_lt hg))⟩;rw[HE.o,<-Gc.o];rfl
theorem bRc:∀(x:Ex)(A:OA)(ca:Nat)(B:OA)(cb:Nat)(w:World),aM w x A B->aT x<=1000000->
 Calls Tryz.prog 173 #[.agg (aJ x A ca B cb)] w fun e w'=>e=.returned (.int .i64 (gC x:Nat))/\Below w.heap.size w w':=by
 refine tB fun x ih A ca B cb w hr hs=>?_;have Ct:=Hd ih;have Gc:=Hd (aHj x);have Li:=aEm x;have Au:=aHj x;have Nj:=hr.subs.max;have HF:=Hd fun w1 h=>gH w x A ca B cb w1 h hr;have Hb:=Hd fun i (hi:i<x.subs.length)=>aSs hi;have Ae:=Hd fun i (hi:i<x.subs.length)=>(aEu (zS hi));have Nh:=Hd (List.take_length (l:=x.subs));clear ih hr;unfold aJ at HF Ct⊢;generalize Aq:x.subs.length=len at *;go_in
 go_upto_region 1 with(fail);generalize Af:w.alloc _=w1;obtain⟨Ab,hg,Al,hcell⟩:=HF.o w1 Af;have HC:=Hd hcell;have Ac:=Hd Ab;have Bi:=Hd Al;clear hcell Ab Al Af HF;go_wp2_with fail;go_loopw [3,4] (fun s i wr=>∃k:Nat,k<=len/\i=.int .i64 k/\s=.int .i64 ((kY (x.subs.take k):Nat):Int)/\Below w1.heap.size w1 wr) (fun _ i _=>len-(intOf i).toNat)
 case atStart=>exact⟨0,Ys _,rfl,by simp[kY],Yg _ _⟩
 case round=>
  obtain⟨k,hk,rfl,rfl,Aa⟩:=hrel;have Ay:=Hd Aa;have Ni:=HC.o wr Aa 5;by_cases Ah:k<len
  . obtain⟨b,off,rfl,hb,Ar⟩:=(Bi.o.below Aa).sub (i:=k) aA;obtain⟨A',Jx,B',Ng,Bs,Fs⟩:=Ar k aA;obtain⟨c0,c1,c2,c3,c4,c5⟩:=jW Bs;have Hc:=Hd Fs;have Ir:=Hd (Hb.o k aA);clear Ar Aa Bs Fs;have Nk:=Ae.o k aA;go_wp2_with fail;refine(Ct.o k aA A' Jx B' Ng _ Hc.o aA).mono ?_;rintro r w2 ⟨rfl,Ag⟩;have Ai:=Hd (Ay.o.tr Ag);exact bHz
  . have Ha:k=len:=by omega
    subst Ha;have HE:=Hd (Aq ▸ Nh.o:x.subs.take k=x.subs);rw[HE.o];generalize kY x.subs=d at *;go_wp2_with fail;go_ret;refine⟨?_,Ac.o.tr Ay.o⟩;rw[Gc.o];rfl
theorem bRd:∀(x:Ex)(A:OA)(ca:Nat)(B:OA)(cb:Nat)(w:World),aM w x A B->∀left:Nat,left<=1000000->
 Calls Tryz.prog 65 #[.agg (aJ x A ca B cb),.int .i64 left] w fun e w'=>e=.returned (.int .i64 (left-aT x:Nat))/\Below w.heap.size w w':=by
 refine tB fun x ih A ca B cb w hr left hs=>?_;have Aq:=Hd fun i hi A ca B cb w h l hl=>ih i hi A ca B cb w h l hl;have Au:=uG x;have Nm:=hr.subs.max;have HF:=Hd fun w1 h=>gH w x A ca B cb w1 h hr;have Hb:=Hd fun i (hi:i<x.subs.length)=>aHa hi;have Nj:=Hd fun i=>aEk x.subs i;have Nh:=Hd (List.take_length (l:=x.subs));clear ih hr;unfold aJ at HF Aq⊢;generalize Ae:x.subs.length=len at *;by_cases h0:left=0
 . subst h0;go_in
   go_upto_region 1 with(fail);generalize Af:w.alloc _=w1;obtain⟨Ab,hg,Al,hcell⟩:=HF.o w1 Af;have Ac:=Hd Ab;clear hcell Ab Al Af HF;go_wp2_with fail;go_ret;refine⟨?_,Ac.o⟩;rw[Nat.zero_sub];rfl
 . obtain⟨l1,rfl⟩:∃l1,left=l1+1:=⟨left-1,by omega⟩;go_in
   go_upto_region 1 with(fail);generalize Af:w.alloc _=w1;obtain⟨Ab,hg,Al,hcell⟩:=HF.o w1 Af;have HC:=Hd hcell;have Ac:=Hd Ab;have Bi:=Hd Al;clear hcell Ab Al Af HF;go_wp2_with fail;go_loopw [1,5] (fun s i wr=>∃k:Nat,k<=len/\i=.int .i64 k/\s=.int .i64 ((l1-bW (x.subs.take k):Nat):Int)/\Below w1.heap.size w1 wr) (fun _ i _=>len-(intOf i).toNat)
   case atStart=>exact⟨0,Ys _,rfl,by simp[bW],Yg _ _⟩
   case round=>
    obtain⟨k,hk,rfl,rfl,Aa⟩:=hrel;have Ay:=Hd Aa;have Nn:=HC.o wr Aa 5;have Cz:=Nj.o k;by_cases Ah:k<len
    . by_cases hp:l1-bW (x.subs.take k)=0
      . rw[hp];go_wp2_with fail;go_ret;refine⟨?_,Ac.o.tr Ay.o⟩;rw[show l1+1-aT x=0 by omega];rfl
      . obtain⟨b,off,rfl,hb,Ar⟩:=(Bi.o.below Aa).sub (i:=k) aA;obtain⟨A',Nk,B',Ha,Fs,Ct⟩:=Ar k aA;obtain⟨c0,c1,c2,c3,c4,c5⟩:=jW Fs;have Hc:=Hd Ct;have Bs:=Hb.o k aA;have Ir:=Hd Bs;clear Ar Aa Fs Ct;obtain⟨q,hq⟩:∃q,l1-bW (x.subs.take k)=q:=⟨_,rfl⟩;rw[hq];have Nl:0<q:=aA;have Ng:q<=1000000:=aA;have HQ:=Hd hq;clear hq hp Bs Cz Au;go_wp2_with fail;refine(Aq.o k aA A' Nk B' Ha _ Hc.o q Ng).mono ?_;rintro r w2 ⟨rfl,Ag⟩;have Ai:=Hd (Ay.o.tr Ag);clear Ag;go_wp2_with fail;go_roundw;case rel=>
         refine⟨_,_,_,_,_,_,_,_,_,_,_,_,_,_,_,_,_,_,_,_,?_,rfl⟩;refine⟨k+1,by omega,by go_num,?_,Ai.o⟩
         have:=HQ.o
         rw[Ir.o,show l1-(bW (x.subs.take k)+aT (bI x k))=q-aT (bI x k)by omega]
        case measure=>simp[intOf];omega
    . have Ni:k=len:=by omega
      subst Ni;have HE:=Hd (Ae ▸ Nh.o:x.subs.take k=x.subs);rw[HE.o];have HA:l1+1-aT x=l1-bW x.subs:=aA;have Jx:=Hd HA;generalize l1-bW x.subs=d at *;clear HA Cz Au;go_wp2_with fail;go_ret;refine⟨?_,Ac.o.tr Ay.o⟩;rw[Jx.o];rfl
def jJ(w:World):List Ex->List Value->Prop
 |[],cs=>cs=[]
 |x::l,cs=>∃A ca B cb Aa,cs=dB x A ca B cb++Aa/\aM w x A B/\jJ w l Aa
theorem aYr{w:World}{x:Ex}{A:OA}{ca:Nat}{B:OA}{cb:Nat}(h:aM w x A B):jJ w [x] (dB x A ca B cb):=⟨A,ca,B,cb,[],by simp,h,rfl⟩
theorem aNs{w:World}:∀{l l':List Ex}{cs Aa:LV},jJ w l cs->jJ w l' Aa->jJ w (l++l') (cs++Aa)
 |[],l',cs,Aa,h,h'=>by
  obtain rfl:cs=[]:=h;simpa using h'
 |x::l,l',cs,Aa,h,h'=>by
  obtain⟨A,ca,B,cb,Ae,rfl,h1,h2⟩:=h;exact⟨A,ca,B,cb,Ae++Aa,by simp,h1,aNs h2 h'⟩
theorem aYs{w:World}:∀{l:List Ex}{cs:LV},jJ w l cs->cs.length=l.length*6
 |[],cs,h=>by
  obtain rfl:cs=[]:=h;rfl
 |x::l,cs,h=>by
  obtain⟨A,ca,B,cb,Aa,rfl,h1,h2⟩:=h;rw[Yo,aYs h2,Yq];show 6+l.length*6=_;omega
theorem aMf{w:World}:∀{l:List Ex}{cs:LV},jJ w l cs->∀u∈cs,u.oneCell'=true
 |[],cs,h,u,hu=>by
  obtain rfl:cs=[]:=h;cases hu
 |x::l,cs,h,u,hu=>by
  obtain⟨A,ca,B,cb,Aa,rfl,h1,h2⟩:=h;rcases Zr.1 hu with hu|hu
  . simp only[dB,Yw,Yl,or_false]at hu;rcases hu with rfl|rfl|rfl|rfl|rfl|rfl<;>rfl
  . exact aMf h2 u hu
theorem aU0{w w':World}(hb:Below w.heap.size w w'):∀{l:List Ex}{cs:LV},jJ w l cs->jJ w' l cs
 |[],cs,h=>h
 |x::l,cs,h=>by
  obtain⟨A,ca,B,cb,Aa,rfl,h1,h2⟩:=h;exact⟨A,ca,B,cb,Aa,rfl,h1.below hb,aU0 hb h2⟩
theorem aOj{w:World}{b:Nat}:∀{l:List Ex}{cs:LV}{off:Nat},jJ w l cs->w.rangeAt b off cs->iT w l b off
 |[],cs,off,h,hr=>by simp only[iT]
 |x::l,cs,off,h,hr=>by
  obtain⟨A,ca,B,cb,Aa,rfl,h1,h2⟩:=h;simp only[iT];refine⟨⟨A,ca,B,cb,fun j v hj=>hr j v ?_,h1⟩,aOj h2 fun j v hj=>?_⟩
  . rw[List.getElem?_append_left (List.getElem?_eq_some_iff.1 hj).1];exact hj
  . rw[Nat.add_assoc];refine hr (6+j) v ?_;rw[List.getElem?_append_right (by show 6<=6+j;omega)];show Aa[6+j-6]?=some v;rw[show 6+j-6=j by omega];exact hj
def aDw(w:World)(A:OA)(n:Nat)(cs:LV):Prop:=
 cs.length=n*6/\n<=9223372036854775807/\(0<n->∃b off,A=some ⟨b,off,none⟩/\b<w.heap.size/\w.rangeAt b off cs)
theorem aDw.of_own{w:World}{base:Nat}{e:TypeId}{v:Value}{n:Nat}{cs:LV}(h:w.ownsRow base e 6 v n cs)(hm:n<=9223372036854775807):∃A c,v=.slice A n c/\aDw w A n cs/\(0<n->∃g,A=some ⟨g,0,none⟩/\base<=g):=by
 rcases h.2 with⟨rfl,rfl⟩|⟨g,cap,cur,rfl,hg,hh,hnc,hcm,hcs,ht⟩;· exact⟨none,0,rfl,⟨h.1,hm,by omega⟩,by omega⟩
 . refine⟨_,cap,rfl,⟨h.1,hm,fun hn=>⟨g,0,rfl,(Ym.1 hh).1,fun j v hj=>?_⟩⟩,fun _=>⟨g,rfl,hg⟩⟩
   have:=h.cellAt j (by rw[<-h.1];exact(List.getElem?_eq_some_iff.1 hj).1)
   rw[Nat.zero_add,this,hj]
theorem aDw.rd{w w0:World}{A:OA}{n:Nat}{cs:LV}{l:List Ex}(h:aDw w A n cs)(hf:jJ w0 l cs)(hb:Below w0.heap.size w0 w):gK w A n l:=by
 have h1:=aYs hf;have h2:=h.1;refine⟨by omega,h.2.1,fun hn=>?_⟩;obtain⟨b,off,e,Cl,hr⟩:=h.2.2 hn;exact⟨b,off,e,Cl,aOj (aU0 hb hf) hr⟩
theorem rM{w w':World}{base:Nat}{e:TypeId}{size:Nat}{v:Value}{n:Nat}{xs:LV}(h:w.ownsRow base e size v n xs)(hb:Below w.heap.size w w'):w'.ownsRow base e size v n xs:=by
 refine⟨h.1,?_⟩;rcases h.2 with h|⟨g,cap,cur,e1,hg,hh,r⟩;· exact .inl h
 . exact .inr ⟨g,cap,cur,e1,hg,(hb.block g (Ym.1 hh).1).trans hh,r⟩
def bVk(w0 w w':World)(e:Ending)(x:Ex):Prop:=∃A c cs,e=.returned (.slice A (aT x) c)/\aDw w' A (aT x) cs/\jJ w0 (bP x) cs/\Below w.heap.size w w'/\∃g,A=some ⟨g,0,none⟩/\w.heap.size<=g
theorem bAo:∃i:TypeInfo,Tryz.prog.info? 79=some i/\i.size=6/\i.zero=some (.agg #[.int .i64 0,.int .i64 0,.string ⟨#[]⟩,.int .i64 0,.slice none 0 0,.slice none 0 0])/\i.bytes=88:=by
 have h:(Tryz.prog.info? 79).map (fun i=>(i.size,i.zero,i.bytes))=some (6,some (.agg #[.int .i64 0,.int .i64 0,.string ⟨#[]⟩,.int .i64 0,.slice none 0 0,.slice none 0 0]),88):=aE;cases hq:Tryz.prog.info? 79 with
 |none=>rw[hq]at h;cases h
 |some i=>
  exact bC4
theorem aWp:∀(x:Ex)(A:OA)(ca:Nat)(B:OA)(cb:Nat)(w0 w:World),aM w0 x A B->Below w0.heap.size w0 w->aT x<=1000000->
 Calls Tryz.prog 126 #[.agg (aJ x A ca B cb)] w fun e w'=>bVk w0 w w' e x:=by
 refine tB fun x ih A ca B cb w0 w Ct Nj hs=>?_;obtain⟨i0,hi,Cm,Co,Cr⟩:=bAo;have Nn:=Hd ih;have Gc:=Hd (uG x);have Ol:=Ct.subs.max;have Nv:=Hd Ct;have Cd:=Hd Nj;have HF:=Hd fun w1 h=>gH w x A ca B cb w1 h (Ct.below Nj);have No:=Hd fun i (hi:i<x.subs.length)=>aHa hi;have Oa:=Hd fun i (hi:i<x.subs.length)=>aSt hi;have Nt:=Hd fun i=>aEk x.subs i;have Nm:=Hd fun i (hi:i<x.subs.length)=>aEu (zS hi);have Od:=Hd (List.take_length (l:=x.subs));have Fs:=Hd (aYr (ca:=ca) (cb:=cb) Ct);have On:=uG x;clear ih Ct Nj;unfold aJ at HF Nn⊢;unfold dB at Fs;generalize Jx:x.subs.length=len at *;go_in
 go_upto_region 1 with(fail);generalize Af:w.alloc _=w1;obtain⟨Ab,hg,Al,hcell⟩:=HF.o w1 Af;have HC:=Hd hcell;have Ac:=Hd Ab;obtain⟨q0,q1,q2,q3,q4,q5⟩:=Sx (hcell w1 (Yg _ _));clear hcell Ab Al Af HF;have HL:=Hd fun(cs:AV)(hs:cs.size=1*6)=>World.ownsRow_lit (base:=w1.heap.size) (e:=79) (size:=6) w1 cs 1 (Yh _) aF hs;have Ew:=Hd fun(o:Obj)=>(Yg w1.heap.size w1).alloc (Yh _) o;go_wp2_with fail;go_loopw [3,4] (fun v i wr=>∃k:Nat,k<=len/\i=.int .i64 k/\(∃cs,jJ w0 (x::eL (x.subs.take k)) cs/\wr.ownsRow w1.heap.size 79 6 v (1+bW (x.subs.take k)) cs)/\Below w1.heap.size w1 wr) (fun _ i _=>len-(intOf i).toNat)
 case atStart=>
  refine⟨0,Ys _,rfl,⟨_,?_,HL.o _ rfl⟩,Ew.o _⟩;exact Fs.o
 case round=>
  obtain⟨k,hk,rfl,⟨cs,Nl,Ad⟩,Bs⟩:=hrel;have Ay:=Hd Bs;have Ni:=Hd Nl;have Bg:=Hd Ad;have Om:=HC.o wr Bs 5;have Cz:=Nt.o k;have Cv:=Bs.size;have Hb:=Hd (Cd.o.trans ((Ac.o.trans (Bs.mono (Nat.le_of_lt hg))).mono Cd.o.size));by_cases Ah:k<len
  . obtain⟨b,off,rfl,hb,Ar⟩:=Nv.o.sub (i:=k) aA;obtain⟨A',Og,B',Nx,Nu,Nr⟩:=Ar k aA;obtain⟨c0,c1,c2,c3,c4,c5⟩:=jW (uE Nu hb fun p hp=>Hb.o.cell hp);have Nz:=Hd Nr;have Ir:=Hd (No.o k aA);have Nh:=Hd (Oa.o k aA);have Oj:=No.o k aA;have Nw:=Nt.o (k+1);have Ok:=Nm.o k aA;clear Ar Bs Nu Nr Nl Ad;go_wp2_with fail;refine(Nn.o k aA A' Og B' Nx w0 _ Nz.o Hb.o aA).mono ?_;rintro r w2 ⟨A2,Ny,Ns,rfl,Aa,Aq,Ag,_⟩;obtain⟨b2,Nk,rfl,Oc,Ng⟩:=Aa.2.2 (vW _);have Of:=Hd (aNs Ni.o Aq);have Oh:=Hd (aMf Aq);have Oi:=Aa.1;have Ae:=rM Bg.o Ag;have Hc:=Hd (Ay.o.tr Ag);have Ha:=Hc.o.size;go_wp2_with (at_builtin;go_must (refine wpList_append_own_at _ rfl _ _ 77 rfl w1.heap.size 79 i0 _ 6 88 Tryz.underlying77 hi Co Cm Cr rfl aF _ _ _ rfl Ae ⟨b2,Nk,none⟩ (aT (bI x k)) Ny Ns rfl Oi (fun j u hu=>by rw[Addr.add_mid];exact Ng j u hu) Oh.o fZ aA Ha ?_;intro v' w3 Bb Aw _ Eg));have Ej:=Hd (Hc.o.grown Aw Ha (fun j hj=>(Ae.lt j hj).1));have Gl:=Hd Bb;clear Bb Aw Eg Ae Ag;go_wp2_with fail;go_roundw;case rel=>
     refine⟨k+1,by omega,by go_num,⟨cs++Ns,?_,?_⟩,Ej.o⟩
     . rw[Nh.o];exact Of.o
     . rw[Ir.o,<-Nat.add_assoc];exact Gl.o
    case measure=>simp[intOf];omega
  . have Oe:k=len:=by omega
    subst Oe;have HE:=Hd (Jx ▸ Od.o:x.subs.take k=x.subs);rw[HE.o]at Bg Ni;obtain⟨A3,c3,rfl,Aa,Nq⟩:=aDw.of_own Bg.o aA;have Bq:=Hd Aa;obtain⟨g3,Np,Ib⟩:=Nq aA;have Ob:=Hd Np;clear Np Nq;clear Aa Nl Ad;go_wp2_with fail;go_ret;rw[<-Gc.o]at Bq;refine⟨A3,c3,cs,?_,Bq.o,?_,Ac.o.trans (Ay.o.mono (Nat.le_of_lt hg)),g3,Ob.o,by omega⟩
    . rw[Gc.o];rfl
    . rw[aBq];exact Ni.o
theorem vR{α:Type}[Inhabited α]{l:List α}{f:α->Bool}{i:Nat}(hi:i<l.length)(h:f (l[i]?.getD default)=false):l.all f=false:=by
 rw[List.all_eq_false];refine⟨l[i]?.getD default,?_,by simp[h]⟩;rw[Yk hi];exact Zk _
theorem zH{α:Type}[Inhabited α]{l:List α}{f:α->Bool}{k:Nat}(hk:k<l.length)(h:(l.take k).all f=true)(hx:f (l[k]?.getD default)=true):(l.take (k+1)).all f=true:=by
 rw[List.take_succ_eq_append_getElem hk,List.all_append,h,Bool.true_and];rw[Yk hk]at hx;simpa using hx
theorem zJ{α:Type}{l:List α}{f:α->Bool}{k:Nat}(h:(l.take k).all f=true)(hk:l.length<=k):l.all f=true:=by rwa[Yz hk]at h
instance :Inhabited ByteArray:=⟨ByteArray.empty⟩
def wY(t:BA):Bool:=!decide (100<t.size)
def oA(p:Ex):Bool:=!decide (200<p.s.size) && !decide (20<p.arms.length) && p.arms.all wY
def tJ(x:Ex):Bool:=decide (aT x<200) && (bP x).all oA
theorem bZm(x:Ex)(A:OA)(ca:Nat)(B:OA)(cb:Nat)(w:World)(hr:aM w x A B)(hs:aT x<=1000000):
 Calls Tryz.prog 66 #[.agg (aJ x A ca B cb)] w fun e w'=>e=.returned (.bool ((bP x).all oA))/\Below w.heap.size w w':=by
 have HF:=Hd fun w1 h=>gH w x A ca B cb w1 h hr;have HP:=Hd fun w1 (h:Below w.heap.size w w1)=>aWp x A ca B cb w w1 hr h hs;have Fk:=Hd (aEl x);have Nj:=vW x;clear hr;unfold aJ at HF HP⊢;go_in
 go_upto_region 1 with(fail);generalize Af:w.alloc _=w1;obtain⟨Ab,hg,Al,hcell⟩:=HF.o w1 Af;have Ac:=Hd Ab;have Hc:=Hd (HP.o w1 Ab);obtain⟨q0,q1,q2,q3,q4,q5⟩:=Sx (hcell w1 (Yg _ _));clear hcell Ab Al Af HF HP;go_wp2_with fail;refine Hc.o.mono ?_;rintro r w2 ⟨A2,c2,Nk,rfl,Ae,Aq,Ag,_⟩;have Ai:=Hd (Ac.o.tr Ag);have Jx:=Hd (Ae.rd Aq Ai.o);clear Ae Aq Ag q0 q1 q2 q3 q4 q5 Hc;generalize hl:bP x=l at *;have Mr:=Hd hl;generalize hn:aT x=n at *;go_wp2_with fail;go_loopw [4] (fun i wr=>∃k:Nat,k<=n/\i=.int .i64 k/\w2=wr/\(l.take k).all oA=true) (fun i _=>n-(intOf i).toNat)
 case atStart=>exact⟨0,Ys _,rfl,rfl,by simp⟩
 case round=>
  obtain⟨k,hk,rfl,rfl,Aa⟩:=hrel;have HA:=Hd Aa;clear Aa;by_cases Ah:k<n
  . obtain⟨b,off,rfl,hb,Ar⟩:=Jx.o.at_ Ah;obtain⟨A',Nl,B',Nh,Hb,Ha⟩:=Ar k Ah;obtain⟨c0,c1,c2,c3,c4,c5⟩:=jW Hb;have Dx:=Hd Ha.arms;have HK:=Hd (show k<l.length by rw[Fk.o];exact Ah);clear Ar Hb Ha;generalize hp:l[k]?.getD default=p at *;have Bs:=Hd hp;by_cases h1:200<p.s.size
    . have HN:=Hd (vR (f:=oA) HK.o (by rw[Bs.o];simp[oA,h1]));exact aPm
    . by_cases h2:20<p.arms.length
      . have HN:=Hd (vR (f:=oA) HK.o (by rw[Bs.o];simp[oA,h2]));exact aPm
      . generalize hm:p.arms.length=m at *;have HM:=Hd hm;go_wp2_with fail;go_loopw [5] (fun j wr=>∃i:Nat,i<=m/\j=.int .i64 i/\w2=wr/\(p.arms.take i).all wY=true) (fun j _=>m-(intOf j).toNat)
        case atStart=>exact⟨0,Ys _,rfl,rfl,by simp⟩
        case round=>
         obtain⟨i,hi,rfl,rfl,Aa⟩:=hrel;have HJ:=Hd Aa;clear Aa;by_cases Ct:i<m
         . obtain⟨b3,Ng,rfl,Ak,Fs⟩:=Dx.o.at_ Ct;have Ni:=Fs i Ct;have HI:=Hd (show i<p.arms.length by rw[HM.o];exact Ct);clear Fs;generalize ht:p.arms[i]?.getD ByteArray.empty=t at *;have HT:=Hd ht;by_cases h3:100<t.size
           . have HN:=Hd (vR (f:=wY) HI.o (by show wY (p.arms[i]?.getD ByteArray.empty)=false;rw[HT.o];simp[wY,h3]));have Di:=Hd (vR (f:=oA) HK.o (by rw[Bs.o];unfold oA;rw[HN.o];simp));go_wp2_with fail;go_ret;exact⟨aO (by first|exact Di.o.symm|(rw[Mr.o];exact Di.o.symm)),Ai.o⟩
           . have HN:=Hd (zH (f:=wY) HI.o HJ.o (by show wY (p.arms[i]?.getD ByteArray.empty)=true;rw[HT.o];simp[wY,h3]));go_wp2_with fail;go_roundw;case rel=>exact⟨i+1,by omega,by go_num,lY,HN.o⟩
             case measure=>simp[intOf];omega
         . have HN:=Hd (zJ HJ.o (by rw[HM.o];omega));have Di:=Hd (zH (f:=oA) HK.o HA.o (by rw[Bs.o];unfold oA;rw[HN.o,HM.o];simp[h1,h2]));go_wp2_with fail;go_roundw;case rel=>exact⟨k+1,by omega,by go_num,lY,Di.o⟩
           case measure=>simp[intOf];omega
  . have HN:=Hd (zJ HA.o (by rw[Fk.o];omega));exact aPm
theorem bRe(x:Ex)(A:OA)(ca:Nat)(B:OA)(cb:Nat)(w:World)(hr:aM w x A B):
 Calls Tryz.prog 27 #[.agg (aJ x A ca B cb)] w fun e w'=>e=.returned (.bool (tJ x))/\Below w.heap.size w w':=by
 have HF:=Hd fun w1 h=>gH w x A ca B cb w1 h hr;have Aa:=Hd fun w1 (h:aM w1 x A B)=>bRd x A ca B cb w1 h 200 aA;have Ae:=Hd fun w1 (h:aM w1 x A B)(h2:aT x<=1000000)=>bZm x A ca B cb w1 h h2;have HT:=Hd (show tJ x=(decide (aT x<200) && (bP x).all oA)from rfl);clear hr;unfold aJ at HF Aa Ae⊢;by_cases hs:aT x<200
 . obtain⟨q,hq⟩:∃q,200-aT x=q+1:=⟨199-aT x,by omega⟩;rw[hq]at Aa;have Aq:=Hd (show tJ x=(bP x).all oA by rw[HT.o];simp[hs]);clear hq HT;go_in
   go_upto_region 1 with(fail);generalize Af:w.alloc _=w1;obtain⟨Ab,hg,Al,hcell⟩:=HF.o w1 Af;have Ac:=Hd Ab;have Gs:=Hd (Aa.o w1 Al);have Bi:=Hd Al;obtain⟨q0,q1,q2,q3,q4,q5⟩:=Sx (hcell w1 (Yg _ _));have Bs:=Hd hcell;clear hcell Ab Al Af HF Aa;go_wp2_with fail;refine Gs.o.mono ?_;rintro r w2 ⟨rfl,Ag⟩;have Ai:=Hd (Ac.o.tr Ag);have Ct:=Hd (Ae.o w2 (Bi.o.below Ag) aA);clear q0 q1 q2 q3 q4 q5;obtain⟨q0,q1,q2,q3,q4,q5⟩:=Sx (Bs.o w2 Ag);clear Ag Bs Ae;go_wp2_with fail;refine Ct.o.mono ?_;rintro r w3 ⟨rfl,Ak⟩;have Aj:=Hd (Ai.o.tr Ak);clear Ak;generalize hb:(bP x).all oA=bb at *;go_wp2_with fail;go_ret;exact⟨aO (by rw[Aq.o]),Aj.o⟩
 . have hq:200-aT x=0:=by omega
   rw[hq]at Aa;have Aq:=Hd (show tJ x=false by rw[HT.o];simp[hs]);clear hq HT Ae;go_in
   go_upto_region 1 with(fail);generalize Af:w.alloc _=w1;obtain⟨Ab,hg,Al,hcell⟩:=HF.o w1 Af;have Ac:=Hd Ab;have Gs:=Hd (Aa.o w1 Al);obtain⟨q0,q1,q2,q3,q4,q5⟩:=Sx (hcell w1 (Yg _ _));clear hcell Ab Al Af HF Aa;go_wp2_with fail;refine Gs.o.mono ?_;rintro r w2 ⟨rfl,Ag⟩;have Ai:=Hd (Ac.o.tr Ag);clear Ag;go_wp2_with fail;go_ret;exact⟨aO Aq.o.symm,Ai.o⟩
mutual
def pL:Ex->Ex->Bool
 |.mk k n s op Aa Ae,y=>(k==y.k) && (n==y.n) && (s.toList==y.s.toList) && (op==y.op) && jD Aa y.arms && qI Ae y.subs
def qI:List Ex->List Ex->Bool
 |[],[]=>true
 |x::l,y::m=>pL x y && qI l m
 |_,_=>false
end
theorem aWq(x y:Ex):pL x y=((x.k==y.k) && (x.n==y.n) && (x.s.toList==y.s.toList) && (x.op==y.op) && jD x.arms y.arms && qI x.subs y.subs):=by
 cases x;simp only[pL,Ex.k,Ex.n,Ex.s,Ex.op,Ex.arms,Ex.subs]
theorem aTc:∀{l m:List Ex},l.length≠m.length->qI l m=false
 |[],[],h=>absurd rfl h
 |x::l,y::m,h=>by
  simp only[qI,aTc (l:=l) (m:=m) (fun e=>h yW),Bool.and_false]
 |[],_::_,_=>by simp only[qI]
 |_::_,[],_=>by simp only[qI]
theorem aU1:∀{l m:List Ex}{i:Nat},i<l.length->i<m.length->pL (l[i]?.getD default) (m[i]?.getD default)=false->qI l m=false
 |[],_,i,h,_,_=>absurd h aC
 |_::_,[],i,_,h,_=>absurd h aC
 |x::l,y::m,0,_,_,h=>by
  simp only[Zd,Yv]at h;simp only[qI,h,Bool.false_and]
 |x::l,y::m,i+1,h1,h2,h=>by
  simp only[Ze]at h;simp only[qI,aU1 wV aGk h,Bool.and_false]
theorem aLy:∀{l m:List Ex},l.length=m.length->(∀i,i<l.length->pL (l[i]?.getD default) (m[i]?.getD default)=true)->qI l m=true
 |[],[],_,_=>by simp only[qI]
 |[],_::_,h,_=>by simp at h
 |_::_,[],h,_=>by simp at h
 |x::l,y::m,h,H=>by
  simp only[qI,Yu];refine⟨by simpa using H 0 aC,aLy nZ fun i hi=>?_⟩;simpa using H (i+1) vG
theorem aTd(w:World)(x y:Ex)(A A':OA)(ca Ae:Nat)(B B':OA)(cb Aa:Nat)(w1:World)(h:(w.alloc (.cells (aJ x A ca B cb) 79)).alloc (.cells (aJ y A' Ae B' Aa) 79)=w1)(hr:aM w x A B)(Aq:aM w y A' B'):
 Below w.heap.size w w1/\w.heap.size+1<w1.heap.size/\aM w1 x A B/\aM w1 y A' B'/\(∀w',Below w1.heap.size w1 w'->∀j,w'.cell? ⟨w.heap.size,j,none⟩=(aJ x A ca B cb)[j]?)/\∀w',Below w1.heap.size w1 w'->∀j,w'.cell? ⟨w.heap.size+1,j,none⟩=(aJ y A' Ae B' Aa)[j]?:=by
 subst h;refine⟨((Yg _ _).alloc (Yh _) _).alloc aC _,by simp,(hr.alloc _).alloc _,(Aq.alloc _).alloc _,fun w' hb j=>?_,fun w' hb j=>?_⟩;· exact bCx
 . rw[hb.cell (p:=⟨w.heap.size+1,j,none⟩) aC]
   have:=Zs (w.alloc (.cells (aJ x A ca B cb) 79)) (aJ y A' Ae B' Aa) 79 j
   rwa[World.size_alloc]at this
theorem bVl:∀(x:Ex)(A:OA)(ca:Nat)(B:OA)(cb:Nat)(y:Ex)(A':OA)(Hc:Nat)(B':OA)(Ni:Nat)(w:World),aM w x A B->aM w y A' B'->
 Calls Tryz.prog 64 #[.agg (aJ x A ca B cb),.agg (aJ y A' Hc B' Ni)] w fun e w'=>e=.returned (.bool (pL x y))/\Below w.heap.size w w':=by
 refine tB fun x ih A ca B cb y A' Hc B' Ni w hr Ha=>?_;have Nv:=Hd ih;have Oi:=hr.subs.max;have Of:=Ha.subs.max;have HF:=Hd fun w1 h=>aTd w x y A A' ca Hc B B' cb Ni w1 h hr Ha;have Eb:=Hd fun w1 (h:Below w.heap.size w w1)=>aEv A A' x.arms.length y.arms.length ca Hc x.arms y.arms w1 (hr.below h).arms (Ha.below h).arms;have HS:=Hd (aWq x y);have Oa:=Hd fun h=>aTc (l:=x.subs) (m:=y.subs) h;have Oc:=Hd fun i h1 h2 h=>aU1 (l:=x.subs) (m:=y.subs) (i:=i) h1 h2 h;have Oe:=Hd fun h1 h2=>aLy (l:=x.subs) (m:=y.subs) h1 h2;clear ih hr Ha;unfold aJ at HF Nv⊢;generalize Ob:x.subs.length=n1 at *;generalize Nw:y.subs.length=n2 at *;generalize pL x y=res at *;generalize x.k=k1 at *;generalize y.k=k2 at *;generalize x.n=m1 at *;generalize y.n=m2 at *;generalize x.s=s1 at *;generalize y.s=s2 at *;generalize x.op=o1 at *;generalize y.op=o2 at *;generalize jD x.arms y.arms=nb at *;generalize x.arms.length=a1 at *;generalize y.arms.length=a2 at *;generalize hk:(k1==k2)=bk at *;generalize hm:(m1==m2)=bm at *;generalize hs:(s1.toList==s2.toList)=bs at *;generalize ho:(o1==o2)=bo at *;have nk:(k1 !=k2)=!bk:=by rw[bne,hk]
 have nm:(m1 !=m2)=!bm:=by rw[bne,hm]
 have ns:(s1.toList !=s2.toList)=!bs:=by rw[bne,hs]
 have no:(o1 !=o2)=!bo:=by rw[bne,ho]
 clear hk hm ho;cases bk with
 |false=>
  have HN:=Hd (show res=false by rw[HS.o];rfl);go_in
  go_upto_region 1 with(fail);generalize Af:(w.alloc _).alloc _=w1;obtain⟨Ab,hg,Al,Cu,hcell,Am⟩:=HF.o w1 Af;have Ac:=Hd Ab;have q0:=hcell w1 (Yg _ _) 0;have p0:=Am w1 (Yg _ _) 0;clear hcell Am Ab Al Cu Af HF;exact aP6
 |true=>
  cases bm with
  |false=>
   exact aA4
  |true=>
   cases bs with
   |false=>
    exact aA4
   |true=>
    cases bo with
    |false=>
     exact aA4
    |true=>
     cases nb with
     |false=>
      have HN:=Hd (show res=false by rw[HS.o];simp);go_in
      go_upto_region 1 with(fail);generalize Af:(w.alloc _).alloc _=w1;obtain⟨Ab,hg,Al,Cu,hcell,Am⟩:=HF.o w1 Af;have Ac:=Hd Ab;have Gz:=Hd (Eb.o w1 Ab);have q0:=hcell w1 (Yg _ _) 0;have p0:=Am w1 (Yg _ _) 0;have q1:=hcell w1 (Yg _ _) 1;have p1:=Am w1 (Yg _ _) 1;have q2:=hcell w1 (Yg _ _) 2;have p2:=Am w1 (Yg _ _) 2;have q3:=hcell w1 (Yg _ _) 3;have p3:=Am w1 (Yg _ _) 3;have q4:=hcell w1 (Yg _ _) 4;have p4:=Am w1 (Yg _ _) 4;have q5:=hcell w1 (Yg _ _) 5;have p5:=Am w1 (Yg _ _) 5;exact bHw
     |true=>
      by_cases Oh:n1=n2
      . subst Oh;go_in
        go_upto_region 1 with(fail);generalize Af:(w.alloc _).alloc _=w1;obtain⟨Ab,hg,Al,Cu,hcell,Am⟩:=HF.o w1 Af;have Ac:=Hd Ab;have HC:=Hd hcell;have Hb:=Hd Am;have Bi:=Hd Al;have Cn:=Hd Cu;have Gz:=Hd (Eb.o w1 Ab);have q0:=hcell w1 (Yg _ _) 0;have p0:=Am w1 (Yg _ _) 0;have q1:=hcell w1 (Yg _ _) 1;have p1:=Am w1 (Yg _ _) 1;have q2:=hcell w1 (Yg _ _) 2;have p2:=Am w1 (Yg _ _) 2;have q3:=hcell w1 (Yg _ _) 3;have p3:=Am w1 (Yg _ _) 3;have q4:=hcell w1 (Yg _ _) 4;have p4:=Am w1 (Yg _ _) 4;have q5:=hcell w1 (Yg _ _) 5;have p5:=Am w1 (Yg _ _) 5;clear hcell Am Ab Al Cu Af HF;go_wp2_with fail;refine Gz.o.mono ?_;rintro r w2 ⟨rfl,Ag⟩;have Cj:=Hd Ag;clear q0 q1 q2 q3 q4 q5 p0 p1 p2 p3 p4 p5;have q5:=HC.o w2 Ag 5;have p5:=Hb.o w2 Ag 5;clear Ag;go_wp2_with fail;go_loopw [5] (fun i wr=>∃k:Nat,k<=n1/\i=.int .i64 k/\(∀j,j<k->pL (bI x j) (bI y j)=true)/\Below w1.heap.size w1 wr) (fun i _=>n1-(intOf i).toNat)
        case atStart=>exact⟨0,Ys _,rfl,fun j hj=>absurd hj aA,Cj.o⟩
        case round=>
         obtain⟨k,hk,rfl,Aq,Aa⟩:=hrel;have HA:=Hd Aq;have Ay:=Hd Aa;have r5:=HC.o wr Aa 5;have s5:=Hb.o wr Aa 5;clear Aq;by_cases Ah:k<n1
         . obtain⟨b,off,rfl,hb,Ar⟩:=(Bi.o.below Aa).sub (i:=k) aA;obtain⟨A1,Bu,B1,Br,Nz,Ny⟩:=Ar k aA;obtain⟨c0,c1,c2,c3,c4,c5⟩:=jW Nz;obtain⟨b',It,rfl,Jb,Fs⟩:=(Cn.o.below Aa).sub (i:=k) aA;obtain⟨A2,ca2,B2,cb2,Ae,Bs⟩:=Fs k aA;obtain⟨d0,d1,d2,d3,d4,d5⟩:=jW Ae;have Od:=Hd Ny;have Ns:=Hd Bs;have Bq:=Hd fun d os=>Nv.o k aA A1 Bu B1 Br (bI y k) A2 ca2 B2 cb2 (grow (redrawn wr d) os) (Od.o.below (Zx wr d os)) (Ns.o.below (Zx wr d os));have Nx:=Hd fun d os=>Ay.o.trans ((Zx wr d os).mono Ay.o.size);clear Ar Fs Nz Ae Ny Bs Aa Gz;cases Fj:pL (bI x k) (bI y k)with
           |false=>
            have HN:=Hd (show res=false by rw[HS.o,Oc.o k aA aA Fj];simp);rw[Fj]at Bq;go_wp2_with fail;have cA:=fun d os=>Zl (Bq.o d os);have Nm:=fun d os=>Zw r5 d os;have Nk:=fun d os=>Zw s5 d os;have Nl:=fun d os=>Zw c0 d os;have Ng:=fun d os=>Zw c1 d os;have Nh:=fun d os=>Zw c2 d os;have Nu:=fun d os=>Zw c3 d os;have Nj:=fun d os=>Zw c4 d os;have No:=fun d os=>Zw c5 d os;have Nt:=fun d os=>Zw d0 d os;have Nn:=fun d os=>Zw d1 d os;have Nr:=fun d os=>Zw d2 d os;have Nq:=fun d os=>Zw d3 d os;have Np:=fun d os=>Zw d4 d os;have Jx:=fun d os=>Zw d5 d os;refine Xe aE aE ?_;repeat (quiet_step (exact cA _ _))
            refine Xk ?_;intro _ Ch;obtain⟨⟨dq,Bj⟩,Az⟩:=Ch;subst Az;have Eo:=Hd (Nx.o dq Bj);clear cA Nm Nk Nl Ng Nh Nu Nj No Nt Nn Nr Nq Np Jx;generalize grow (redrawn wr dq) Bj=wq at *;go_wp2_with fail;go_ret;exact⟨aO HN.o.symm,Ac.o.tr Eo.o⟩
           |true=>
            have HN:=Hd (show ∀ j,j<k+1->pL (bI x j) (bI y j)=true from fun j hj=>by
             rcases Nat.lt_or_ge j k with h|h;· exact HA.o j h
             . obtain rfl:j=k:=by omega
               exact Fj)
            rw[Fj]at Bq;go_wp2_with fail;have cA:=fun d os=>Zl (Bq.o d os);have Nm:=fun d os=>Zw r5 d os;have Nk:=fun d os=>Zw s5 d os;have Nl:=fun d os=>Zw c0 d os;have Ng:=fun d os=>Zw c1 d os;have Nh:=fun d os=>Zw c2 d os;have Nu:=fun d os=>Zw c3 d os;have Nj:=fun d os=>Zw c4 d os;have No:=fun d os=>Zw c5 d os;have Nt:=fun d os=>Zw d0 d os;have Nn:=fun d os=>Zw d1 d os;have Nr:=fun d os=>Zw d2 d os;have Nq:=fun d os=>Zw d3 d os;have Np:=fun d os=>Zw d4 d os;have Jx:=fun d os=>Zw d5 d os;refine Xe aE aE ?_;repeat (quiet_step (exact cA _ _))
            refine Xk ?_;intro _ Ch;obtain⟨⟨dq,Bj⟩,Az⟩:=Ch;subst Az;have Eo:=Hd (Nx.o dq Bj);clear cA Nm Nk Nl Ng Nh Nu Nj No Nt Nn Nr Nq Np Jx;generalize grow (redrawn wr dq) Bj=wq at *;go_wp2_with fail;go_roundw;case rel=>exact⟨k+1,by omega,by go_num,HN.o,Eo.o⟩
            case measure=>simp[intOf];omega
         . have Og:k=n1:=by omega
           have Ct:=Oe.o lY (fun i hi=>HA.o i (by rw[Og];exact hi));have HN:=Hd (show res=true by rw[HS.o,Ct];rfl);clear Ct;go_wp2_with fail;go_ret;exact⟨aO HN.o.symm,Ac.o.tr Ay.o⟩
      . have nn:((n1:Int) !=(n2:Int))=true:=by rw[bne_iff_ne];omega
        have HN:=Hd (show res=false by rw[HS.o,Oa.o aA];simp);go_in
        go_upto_region 1 with(fail);generalize Af:(w.alloc _).alloc _=w1;obtain⟨Ab,hg,Al,Cu,hcell,Am⟩:=HF.o w1 Af;have Ac:=Hd Ab;have HC:=Hd hcell;have Hb:=Hd Am;have Gz:=Hd (Eb.o w1 Ab);have q0:=hcell w1 (Yg _ _) 0;have p0:=Am w1 (Yg _ _) 0;have q1:=hcell w1 (Yg _ _) 1;have p1:=Am w1 (Yg _ _) 1;have q2:=hcell w1 (Yg _ _) 2;have p2:=Am w1 (Yg _ _) 2;have q3:=hcell w1 (Yg _ _) 3;have p3:=Am w1 (Yg _ _) 3;have q4:=hcell w1 (Yg _ _) 4;have p4:=Am w1 (Yg _ _) 4;have q5:=hcell w1 (Yg _ _) 5;have p5:=Am w1 (Yg _ _) 5;clear hcell Am Ab Al Cu Af HF;go_wp2_with fail;refine Gz.o.mono ?_;rintro r w2 ⟨rfl,Ag⟩;have Ai:=Hd (Ac.o.tr Ag);clear q0 q1 q2 q3 q4 q5 p0 p1 p2 p3 p4 p5;have q5:=HC.o w2 Ag 5;have p5:=Hb.o w2 Ag 5;exact bEe
end
section
open Go.RowKit
def nL(ss:LB):List (List UInt8):=ss.map fun s=>s.data.toList
def tK(c:UInt8)(s:BA)(ss:LB)(f i:Nat):Prop:=
 ss.length<=i/\((i<=s.size/\f<=i/\dW c s.data.toList=nL ss++dW c (s.data.toList.drop f)/\c∉(s.data.toList.drop f).take (i-f)) \/
 (i=s.size+1/\f=i/\dW c s.data.toList=nL ss))
section
variable {c:UInt8}{s:BA}{ss:LB}{f i:Nat}
theorem bLe:tK c s [] 0 0:=⟨by simp,.inl ⟨by omega,by omega,by simp[nL],by simp⟩⟩
theorem bRf(H:tK c s ss f i)(hi:i<=s.size):f<=i:=by
 obtain⟨_,h|h⟩:=H<;>omega
theorem aTe(hi:i<=s.size):(s.extract f i).data.toList=(s.data.toList.drop f).take (i-f):=Lib.extract_data s f i
theorem bLf(H:tK c s ss f i)(hi:i=s.size):tK c s (ss++[s.extract f i]) (i+1) (i+1):=by
 subst hi;obtain⟨hl,h|h⟩:=H
 . obtain⟨_,hf,he,hn⟩:=h;refine⟨by simp;omega,.inr ⟨rfl,rfl,?_⟩⟩;have h1:(s.data.toList.drop f).take (s.size-f)=s.data.toList.drop f:=Yz (by rw[Zp];simp);rw[h1]at hn;rw[he,aBp hn];simp only[nL,Zt,Xl,List.map_nil];rw[aTe (Yh _),h1]
 . omega
theorem bNq(H:tK c s ss f i)(hi:i<s.size)(hc:s[i]'hi=c):tK c s (ss++[s.extract f i]) (i+1) (i+1):=by
 obtain⟨hl,h|h⟩:=H
 . obtain⟨_,hf,he,hn⟩:=h;have Aa:i<s.data.toList.length:=by rw[<-Zp];exact hi
   refine⟨by simp;omega,.inl ⟨by omega,by omega,?_,by simp⟩⟩;have e1:s.data.toList.drop f=(s.data.toList.drop f).take (i-f)++c::s.data.toList.drop (i+1):=by
    have h1:=(List.take_append_drop (i-f) (s.data.toList.drop f)).symm;have h2:(s.data.toList.drop f).drop (i-f)=c::s.data.toList.drop (i+1):=by
     rw[List.drop_drop,show f+(i-f)=i by omega,List.drop_eq_getElem_cons Aa,aAa s i hi,hc]
    rw[h2]at h1;exact h1
   rw[he,e1,aYl hn];simp only[nL,Zt,Xl,List.map_nil,Yy,List.singleton_append];rw[aTe aA]
 . omega
theorem bRg(H:tK c s ss f i)(hi:i<s.size)(hc:¬s[i]'hi=c):tK c s ss f (i+1):=by
 obtain⟨hl,h|h⟩:=H
 . obtain⟨_,hf,he,hn⟩:=h;have Aa:i<s.data.toList.length:=by rw[<-Zp];exact hi
   refine⟨by omega,.inl ⟨by omega,by omega,he,?_⟩⟩;have e1:i+1-f=(i-f)+1:=aA;have hd:i-f<(s.data.toList.drop f).length:=by rw[Zv];omega
   rw[e1,List.take_succ_eq_append_getElem hd,Zr];rintro (h|h);· exact hn h
   . simp only[Yp,List.getElem_drop]at h;apply hc;rw[<-aAa s i hi,h];congr 1;omega
 . omega
theorem bNr(H:tK c s ss f i)(hi:¬i<=s.size):dW c s.data.toList=nL ss:=by
 obtain⟨_,h|h⟩:=H;· omega
 . exact h.2.2
end
def bAp(c:UInt8)(s:BA)(w:World)(e:Ending)(w':World):Prop:=
 ∃(A:OA)(n k:Nat)(ss:LB),e=.returned (.slice A n k)/\aS w' A n ss/\dW c s.data.toList=nL ss/\n<=s.size+1/\Below w.heap.size w w'
theorem bNs{c:UInt8}{s:BA}{w w':World}{base:Nat}{T:TypeId}{v:Value}{ss:LB}{f i n:Nat}
 (H:tK c s ss f i)(hi:¬i<=s.size)(Ae:i<=s.size+1)(hs:s.size<=7000)(hn:n=ss.length)(Ad:w'.ownsRow base T 1 v n (ss.map Value.string))(hb:Below w.heap.size w w'):
 bAp c s w (.returned v) w':=by
 have h1:=bNr H hi;have h2:=H.1;obtain⟨A,k,rfl,Aa,_⟩:=aS.of_own Ad aA;exact⟨A,n,k,ss,rfl,Aa,h1,by omega,hb⟩
theorem vQ:(Tryz.prog.info? 9).map (fun i=>(i.zero,i.size,i.bytes))=some (some (.string ByteArray.empty),1,16):=aE
theorem tA(l:LB):∀u∈l.map Value.string,u.oneCell'=true:=by
 exact bEn
theorem bAq(s:BA)(x:Int)(c:UInt8)(hx:x=(c.toNat:Int))(w:World)(hs:s.size<=7000):
 Calls Tryz.prog 200 #[.string s,.int .u8 x] w (bAp c s w):=by
 have HX:=Hd hx;clear hx;obtain⟨i0,hi,Cm,Co,Cr⟩:=info_parts vQ;have Ct:=Hd (World.ownsRow_lit (base:=w.heap.size) (e:=9) (size:=1) w #[] 0 (Yh _) aF rfl);have Cd:=Hd ((Yg w.heap.size w).alloc (Yh _) (.cells #[] 9));go_in
 go_wp2_with fail;go_loopw [5,6,7] (fun v fr i wr=>∃(ss:LB)(f k:Nat),i=.int .i64 k/\fr=.int .i64 f/\k<=s.size+1/\tK c s ss f k/\wr.ownsRow w.heap.size 9 1 v ss.length (ss.map Value.string)/\Below w.heap.size w wr)
  (fun _ _ i _=>s.size+1-(intOf i).toNat)
 case atStart=>exact⟨[],0,0,rfl,rfl,by omega,bLe,Ct.o,Cd.o⟩
 case round=>
  obtain⟨ss,f,k,rfl,rfl,hk,Aa,Ad,Ae⟩:=hrel;have HC:=Hd Aa;have Ih:=Aa.1;have HR:=Hd Ad;have HB:=Hd Ae;have Ha:=Ae.size;by_cases Cz:k<=s.size
  . have Hb:=bRf Aa Cz;clear Aa Ad Ae Ct Cd;by_cases Aq:k=s.size
    . have Ab:((k:Int)==(s.size:Int))=true:=by rw[Aq];simp
      have HE:=Hd Aq;clear Aq;go_wp2_with (first|(at_builtin;refine wpList_append_own_at _ rfl _ _ 62 rfl w.heap.size 9 i0 (.string ByteArray.empty) 1 16 Tryz.underlying62 hi Cm Co Cr rfl aF _ _ _ rfl (HR.o.alloc _) ⟨wr.heap.size,0,none⟩ 1 1 [.string (s.extract f k)] rfl rfl (cell_one_new _ _ _) (tA [s.extract f k]) fZ aA cP ?_;intro v' w1 Bb Aw Fc Eg));have HO:=Hd Bb;have HG:=Hd Aw;have Dg:=Aw.size;simp at Dg;clear Bb Aw Fc Eg;go_roundw;case rel=>
       refine⟨ss++[s.extract f k],k+1,k+1,by go_num,by go_num,by omega,bLf HC.o HE.o,?_,?_⟩
       . rw[Yo,Zt];exact HO.o
       . exact bCk
      case measure=>simp[intOf];omega
    . have Ah:k<s.size:=by omega
      have Ab:((k:Int)==(s.size:Int))=false:=aDp;clear Aq;by_cases Bs:s[k]'Ah=c
      . have Ag:(((s[k]'Ah).toNat:Int)==x)=true:=by rw[HX.o,Bs];simp
        have HE:=Hd Bs;clear Bs;go_wp2_with (first|(at_builtin;refine wpList_append_own_at _ rfl _ _ 62 rfl w.heap.size 9 i0 (.string ByteArray.empty) 1 16 Tryz.underlying62 hi Cm Co Cr rfl aF _ _ _ rfl (HR.o.alloc _) ⟨wr.heap.size,0,none⟩ 1 1 [.string (s.extract f k)] rfl rfl (cell_one_new _ _ _) (tA [s.extract f k]) fZ aA cP ?_;intro v' w1 Bb Aw Fc Eg));have HO:=Hd Bb;have HG:=Hd Aw;have Dg:=Aw.size;simp at Dg;clear Bb Aw Fc Eg;go_roundw;case rel=>
         refine⟨ss++[s.extract f k],k+1,k+1,by go_num,by go_num,by omega,bNq HC.o Ah HE.o,?_,?_⟩
         . rw[Yo,Zt];exact HO.o
         . exact bCk
        case measure=>simp[intOf];omega
      . have Ag:(((s[k]'Ah).toNat:Int)==x)=false:=by
         rw[HX.o,Xf];intro e;exact Bs (UInt8.toNat_inj.1 aA)
        have HE:=Hd Bs;clear Bs;go_wp2_with fail;go_roundw;case rel=>exact⟨ss,f,k+1,by go_num,rfl,by omega,bRg HC.o Ah HE.o,HR.o,HB.o⟩
        case measure=>simp[intOf];omega
  . have Fs:=Hd (bNs Aa Cz hk hs rfl Ad Ae);clear Aa Ad Ae Ct Cd;go_wp2_with fail;go_ret;exact Fs.o
end
section
open Go.RowKit
theorem aH0{c:UInt8}:∀{l p:LU},p∈dW c l->p.length<=l.length
 |[],p,h=>by simp[dW]at h;simp[h]
 |b::l,p,h=>by
  unfold dW at h;split at h
  . rcases Yw.1 h with h|h;· simp[h]
    . have:=aH0 h;simp;omega
  . cases hc:dW c l with
    |nil=>rw[hc]at h;simp at h;simp[h]
    |cons q qs=>
     rw[hc]at h;rcases Yw.1 h with h|h
     . have:=aH0 (l:=l) (c:=c) (p:=q) (by rw[hc];simp)
       rw[h];simp;omega
     . have:=aH0 (l:=l) (c:=c) (p:=p) (by rw[hc];simp[h])
       simp;omega
theorem aMg{c:UInt8}{s:BA}{ss:LB}{k:Nat}(h:dW c s.data.toList=nL ss)(hk:k<ss.length):(ss[k]?.getD ByteArray.empty).size<=s.size:=by
 rw[Yk hk,Yv,Zp,Zp];apply aH0 (c:=c);rw[h];exact List.mem_map.2 ⟨_,Zk hk,rfl⟩
def aIk(ss:LB)(k:Nat):Prop:=∀j,j<k->gQ (ss[j]?.getD ByteArray.empty).data.toList=true
section
variable {s:BA}{ss:LB}{k:Nat}
theorem bJq(H:aIk ss k)(h:gQ (ss[k]?.getD ByteArray.empty).data.toList=true):aIk ss (k+1):=fun j hj=>by
 exact aPr
theorem bRh(hc:dW 47 s.data.toList=nL ss)(H:aIk ss k)(h:ss.length<=k):fJ s.data.toList=true:=by
 unfold fJ;rw[hc,Zj];intro p hp;obtain⟨x,hx,rfl⟩:=List.mem_map.1 hp;obtain⟨j,hj,rfl⟩:=Zm hx
 have:=H j aA
 exact aQb
theorem bRi(hc:dW 47 s.data.toList=nL ss)(hk:k<ss.length)(h:gQ (ss[k]?.getD ByteArray.empty).data.toList=false):fJ s.data.toList=false:=by
 unfold fJ;rw[hc];cases ha:(nL ss).all gQ with
 |false=>rfl
 |true=>
  rw[Zj]at ha
  have:=ha _ (List.mem_map.2 ⟨ss[k],Zk hk,rfl⟩)
  rw[Yk hk,Yv,this]at h;cases h
end
section
variable {x:BA}{ps:LB}{m:Nat}
theorem bNt(hc:dW 46 x.data.toList=nL ps)(h:2<ps.length):gQ x.data.toList=false:=by
 unfold gQ;rw[hc]
 match ps,h with
 |a::b::c::r,_=>rfl
theorem bRj(hc:dW 46 x.data.toList=nL ps)(h:aQ (ps[0]?.getD ByteArray.empty).data.toList=false)(h0:0<ps.length):gQ x.data.toList=false:=by
 unfold gQ;rw[hc]
 match ps,h0 with
 |[a],_=>exact h
 |[a,b],_=>show(aQ a.data.toList && _)=false;rw[show aQ a.data.toList=false from h];rfl
 |a::b::c::r,_=>rfl
theorem bRk(hc:dW 46 x.data.toList=nL ps)(h:aQ (ps[0]?.getD ByteArray.empty).data.toList=true)(h1:ps.length=1):gQ x.data.toList=true:=by
 unfold gQ;rw[hc]
 match ps,h1 with
 |[a],_=>exact h
theorem bRl(hc:dW 46 x.data.toList=nL ps)(h:aQ (ps[0]?.getD ByteArray.empty).data.toList=true)(h2:ps.length=2):gQ x.data.toList=kU (ps[1]?.getD ByteArray.empty).data.toList:=by
 unfold gQ;rw[hc]
 match ps,h2 with
 |[a,b],_=>show(aQ a.data.toList && kU b.data.toList)=_;rw[show aQ a.data.toList=true from h];rfl
theorem bNu{c:UInt8}(hc:dW c x.data.toList=nL ps):0<ps.length:=by
 cases ps with
 |nil=>exact absurd hc (aE4 _ _)
 |cons a r=>simp
end
theorem bVm(s:BA)(w:World)(hs:s.size<=7000):
 Calls Tryz.prog 168 #[.string s] w fun e w'=>e=.returned (.bool (fJ s.data.toList))/\Below w.heap.size w w':=by
 have Hb:(47:Int)=((47:UInt8).toNat:Int):=aF;have Ha:(46:Int)=((46:UInt8).toNat:Int):=aF;have Hc:=Hd fun(w:World)=>bAq s 47 47 Hb w hs;have Ng:=Hd fun(x:BA)(w:World)(hs:x.size<=7000)=>bAq x 46 46 Ha w hs;clear Hb Ha;go_in
 go_wp2_with fail;refine(Hc.o _).mono ?_;rintro e w1 ⟨A,n,c,ss,rfl,Nq,Jx,Nu,hb⟩;have Ac:=Hd hb;have Nn:=Hd Jx;have HL:=Hd Nq.len;clear hb Jx Hc;go_wp2_with fail;go_loopw [4] (fun i wr=>∃k:Nat,k<=n/\i=.int .i64 k/\aIk ss k/\Below w1.heap.size w1 wr) (fun i _=>n-(intOf i).toNat)
 case atStart=>exact⟨0,Ys _,rfl,fun j hj=>absurd hj aA,Yg _ _⟩
 case round=>
  obtain⟨k,hk,rfl,Np,Nl⟩:=hrel;have HP:=Hd Np;have HB:=Hd Nl;clear Np;by_cases Ah:k<n
  . obtain⟨b,off,rfl,Nr,hc⟩:=Nq.at_ Ah;have Ns:=(Nl.cell (p:=⟨b,off+k,none⟩) Nr).trans (hc k Ah);have Hn:k<ss.length:=aGj;have Hv:=aMg Nn.o Hn;have Aq:=Hd fun h=>bRi Nn.o Hn h;have Ct:=Hd fun h=>bJq HP.o h;generalize hx:ss[k]?.getD ByteArray.empty=x at Ns Hv Aq Ct;clear hc Nl hx Hn;go_wp2_with fail;refine(Ng.o x _ aA).mono ?_;rintro e w2 ⟨A2,n2,c2,ps,rfl,Bs,Aa,Bm,Ag⟩;have Ai:=Hd (HB.o.tr Ag);have h0:=bNu Aa;have Nh:=Bs.len;obtain⟨b2,Nk,rfl,Nm,Fs⟩:=Bs.at_ (i:=0) aA;have Ca:=Fs 0 aA;rw[Nat.add_zero]at Ca;have ha:=aMg Aa h0;have Nz:0<n2:=aA;by_cases h3:2<n2
    . have HE:=Hd (Aq.o (bNt Aa aA));clear Aa Ag Bs Fs Ca Nh;go_wp2_with fail;go_ret;exact⟨aO HE.o.symm,Ac.o.tr Ai.o⟩
    . by_cases Ae:aQ (ps[0]?.getD ByteArray.empty).data.toList=true
      . by_cases h1:n2<2
        . have HE:=Hd (Ct.o (bRk Aa Ae aA));clear Aa Ag Bs Fs Nh;generalize ps[0]?.getD ByteArray.empty=a at Ca ha Ae;go_wp2_with fail;refine(rV a _ aA).mono ?_;rw[Ae];rintro e w3 ⟨rfl,Ak⟩;have Aj:=Hd (Ai.o.tr Ak);clear Ak Ae;go_wp2_with fail;go_roundw;case rel=>exact⟨k+1,by omega,by go_num,HE.o,Aj.o⟩
          case measure=>simp[intOf];omega
        . have hE:=bRl Aa Ae aA;have Ce:=Fs 1 aA;have hy:=aMg Aa (k:=1) aA;clear Aa Ag Bs Fs Nh;generalize ps[0]?.getD ByteArray.empty=a at Ca ha Ae;generalize ps[1]?.getD ByteArray.empty=y at Ce hy hE;have HE:=Hd hE;clear hE;go_wp2_with fail;refine(rV a _ aA).mono ?_;rw[Ae];rintro e w3 ⟨rfl,Ak⟩;have Aj:=Hd (Ai.o.tr Ak);have Ce:=(Ak.cell (p:=⟨b2,Nk+1,none⟩) Nm).trans Ce;clear Ak Ae;have Ny:decide ((n2:Int)<2)=false:=Xd aA;have Nw:1<n2:=aA;by_cases g1:y.size<1
          . have HF:=Hd (Aq.o (HE.o.trans (aIj (.inl g1))));exact aP0
          . by_cases g2:3<y.size
            . have HF:=Hd (Aq.o (HE.o.trans (aIj (.inr g2))));exact aP0
            . have Jh:decide ((y.size:Int)<1)=false:=Xd aA;have Nx:decide ((3:Int)<(y.size:Int))=false:=Xd aA;have Nv:decide ((2:Int)<(n2:Int))=false:=Xd aA;have y0:0<y.size:=aA;have y3:y.size<=3:=aA;clear g1 g2;by_cases hf:((y[0]'y0).toNat:Int)=48
              . have HF:=Hd (Aq.o (HE.o.trans (aUx y0 hf)));have Nt:(((y[0]'y0).toNat:Int)==48)=true:=wW;clear hf;exact aP0
              . have HF:=Hd hf;have Nt:(((y[0]'y0).toNat:Int)==48)=false:=wW;clear hf;go_wp2_with fail;go_loopw [7] (fun i wr=>∃j:Nat,j<=y.size/\i=.int .i64 j/\wr=w3/\aAh y j) (fun i _=>y.size-(intOf i).toNat)
                case atStart=>exact⟨0,Ys _,rfl,rfl,aSl⟩
                case round=>
                 obtain⟨j,hj,rfl,rfl,No⟩:=hrel;have HD:=Hd No;clear No;by_cases Nj:j<y.size
                 . by_cases Ni:cC ((y[j]'Nj).toNat:Int)=true
                   . go_wp2_with (go_at_call 175;refine(aI1 _ _).mono ?_;rintro e w' ⟨rfl,rfl⟩);go_roundw;case rel=>exact⟨j+1,by omega,by go_num,lY,aSm HD.o Nj Ni⟩
                     case measure=>simp[intOf];omega
                   . have Ni:cC ((y[j]'Nj).toNat:Int)=false:=by simpa using Ni
                     have HG:=Hd (Aq.o (HE.o.trans (aOg Nj Ni)));go_wp2_with (go_at_call 175;refine(aI1 _ _).mono ?_;rintro e w' ⟨rfl,rfl⟩);go_ret;exact⟨aO HG.o.symm,Ac.o.tr Aj.o⟩
                 . have HG:=Hd (Ct.o (HE.o.trans (aYp y0 y3 HF.o fun i h=>HD.o i h aA)));go_wp2_with fail;go_roundw;case rel=>exact⟨k+1,by omega,by go_num,HG.o,Aj.o⟩
                   case measure=>simp[intOf];omega
      . have Ae:aQ (ps[0]?.getD ByteArray.empty).data.toList=false:=by simpa using Ae
        have HE:=Hd (Aq.o (bRj Aa Ae h0));clear Aa Ag Bs Fs Nh;generalize ps[0]?.getD ByteArray.empty=a at Ca ha Ae;go_wp2_with fail;refine(rV a _ aA).mono ?_;rw[Ae];rintro e w3 ⟨rfl,Ak⟩;have Aj:=Hd (Ai.o.tr Ak);clear Ak Ae;go_wp2_with fail;go_ret;exact⟨aO HE.o.symm,Ac.o.tr Aj.o⟩
  . go_wp2_with fail;go_ret;exact⟨aO (bRh Nn.o HP.o aO8).symm,Ac.o.tr HB.o⟩
end
section
open Go.RowKit Go.Sort
theorem bVn(A B:OA)(n m c d:Nat)(ss tt:LB)(w:World)(hs:aS w A n ss)(ht:aS w B m tt):
 Calls Tryz.prog 252 #[.slice A n c,.slice B m d] w fun r w'=>r=.returned (.bool (jD ss tt))/\Below w.heap.size w w':=by
 have h1:=hs.len;have h2:=ht.len;have h3:=hs.max;have h4:=ht.max;by_cases Aa:n=m
 . subst Aa;go_in
   go_wp2_with fail;go_loopw [13] (fun i wr=>∃k:Nat,k<=n/\i=.int .i64 k/\aFh ss tt k/\∃p,wr=w.drewN p) (fun i _=>n-(intOf i).toNat)
   case atStart=>exact⟨0,Ys _,rfl,fun j hj=>absurd hj aA,0,rfl⟩
   case round=>
    exact fK5
 . exact bH3
def aAb(x y:Ex):Bool:=(x.k==y.k) && (x.n==y.n) && (x.s.toList==y.s.toList) && (x.op==y.op) && jD x.arms y.arms
theorem bRm(x:Ex)(A:OA)(ca:Nat)(B:OA)(cb:Nat)(y:Ex)(A':OA)(Ae:Nat)(B':OA)(Aq:Nat)(w:World)(hr:aM w x A B)(Aa:aM w y A' B'):
 Calls Tryz.prog 232 #[.agg (aJ x A ca B cb),.agg (aJ y A' Ae B' Aq)] w fun e w'=>e=.returned (.bool (aAb x y))/\Below w.heap.size w w':=by
 have HF:=Hd fun w1 h=>aTd w x y A A' ca Ae B B' cb Aq w1 h hr Aa;have Eb:=Hd fun w1 (h:Below w.heap.size w w1)=>bVn A A' x.arms.length y.arms.length ca Ae x.arms y.arms w1 (hr.below h).arms (Aa.below h).arms;have HS:=Hd (show aAb x y=((x.k==y.k) && (x.n==y.n) && (x.s.toList==y.s.toList) && (x.op==y.op) && jD x.arms y.arms)from rfl);clear hr Aa;unfold aJ at HF⊢;generalize aAb x y=res at *;generalize x.k=k1 at *;generalize y.k=k2 at *;generalize x.n=m1 at *;generalize y.n=m2 at *;generalize x.s=s1 at *;generalize y.s=s2 at *;generalize x.op=o1 at *;generalize y.op=o2 at *;generalize jD x.arms y.arms=nb at *;generalize x.arms.length=a1 at *;generalize y.arms.length=a2 at *;generalize x.subs.length=n1 at *;generalize y.subs.length=n2 at *;generalize hk:(k1==k2)=bk at *;generalize hm:(m1==m2)=bm at *;generalize hs:(s1.toList==s2.toList)=bs at *;generalize ho:(o1==o2)=bo at *;cases bk with
 |false=>
  exact aA4
 |true=>
  cases bm with
  |false=>
   exact aA4
  |true=>
   cases bs with
   |false=>
    exact aA4
   |true=>
    cases bo with
    |false=>
     exact aA4
    |true=>
     have HN:=Hd (show res=nb by rw[HS.o];simp);go_in
     go_upto_region 1 with(fail);generalize Af:(w.alloc _).alloc _=w1;obtain⟨Ab,hg,Al,Cu,hcell,Am⟩:=HF.o w1 Af;have Ac:=Hd Ab;have q0:=hcell w1 (Yg _ _) 0;have p0:=Am w1 (Yg _ _) 0;have q1:=hcell w1 (Yg _ _) 1;have p1:=Am w1 (Yg _ _) 1;have q2:=hcell w1 (Yg _ _) 2;have p2:=Am w1 (Yg _ _) 2;have q3:=hcell w1 (Yg _ _) 3;have p3:=Am w1 (Yg _ _) 3;have q4:=hcell w1 (Yg _ _) 4;have p4:=Am w1 (Yg _ _) 4;have q5:=hcell w1 (Yg _ _) 5;have p5:=Am w1 (Yg _ _) 5;have Gz:=Hd (Eb.o w1 Ab);exact bHw
end
section
open Go.RowKit Go.ChangeShapes Go.WideShapes Go.Deep
theorem bVo:Tryz.prog.cellsOf 3=1:=aE
theorem bVp:Tryz.prog.cellsOf 2=1:=aE
theorem aNt:Tryz.prog.cellsOf 9=1:=aE
theorem aWr:Tryz.prog.cellsOf 62=1:=aE
theorem bRn:Tryz.prog.cellsOf 77=1:=aE
def OkP(p:Ex):Prop:=p.s.size<=maxLen/\(∀t∈p.arms,t.size<=maxLen)/\(Lit.int .i64 p.k).wf=true/\(Lit.int .i64 p.n).wf=true/\(Lit.int .i64 p.op).wf=true
def sU(x:Ex):Prop:=∀p∈bP x,OkP p
theorem bLg{l:List Ex}{p:Ex}(h:p∈eL l):∃i,i<l.length/\p∈bP (l[i]?.getD default):=by
 induction l with
 |nil=>simp[eL]at h
 |cons x l ih=>
  simp only[eL,Zr]at h;rcases h with h|h;· exact⟨0,by simp,by simpa using h⟩
  . obtain⟨i,hi,hp⟩:=ih h;exact⟨i+1,by simpa using hi,by simpa using hp⟩
theorem bJ8{l:List Ex}{p:Ex}{i:Nat}(hi:i<l.length)(h:p∈bP (l[i]?.getD default)):p∈eL l:=by
 induction l generalizing i with
 |nil=>simp at hi
 |cons x l ih=>
  simp only[eL,Zr];cases i with
  |zero=>left;simpa using h
  |succ i=>right;exact ih vG nZ
theorem sU.sub{x:Ex}(h:sU x){i:Nat}(hi:i<x.subs.length):sU (bI x i):=fun p hp=>h p (by
 rw[aBq];exact Zi _ (bJ8 hi hp))
section
variable {H:Type}{enc:TypeId × Value->H}{w:World}{base:Nat}{spare:Nat->Bool}{held:Bool}
theorem aTf{fuel:Nat}{v:Value}{x:DataW H × List MemPlace}(h:DataW.trod enc Tryz.prog w base spare held fuel 62 [v]=some x):∃A n c ss,v=.slice A n c/\aS w A n ss/\∀s∈ss,s.size<=maxLen:=by
 rcases Go.ChangeShapes.open_strings Tryz.underlying62 Tryz.underlying9 aE h with⟨hcs,_⟩|⟨x,l,c,ss,hcs,_,hl,hm,hss,_,hcell,hz⟩
 . simp at hcs;subst hcs;exact⟨none,0,0,[],rfl,aS.nil_ _,fun s hs=>by cases hs⟩
 . simp at hcs;subst hcs;have Cz:l<=ss.length:=by rw[hss];split<;>omega
   exact⟨some x,l,c,ss.take l,rfl,aYo Cz (by unfold maxLen at hm;omega) hcell,fun s hs=>hz s (List.mem_of_mem_take hs)⟩
end
end
end Go.Proofs.YtagkcjpoipcpkaaGreatDoor
