/- A part of the proof. Conditions: each theorem's own. -/
import Derived.Test.YtagkcjpoipcpkaaGreatDoorF08
namespace Go.Proofs.YtagkcjpoipcpkaaGreatDoor
set_option linter.unusedVariables false
set_option linter.unusedSimpArgs false
set_option maxRecDepth 100000
set_option maxHeartbeats 40000000
section
open Go.RowKit Go.Sort
theorem aTt{x:Ex}(h:tJ x=true):aT x<=1000000:=by
 simp only[tJ,Yu,decide_eq_true_eq]at h;omega
theorem aLp{x:Ex}(h:tJ x=true):∀p∈bP x,eS p:=by
 simp only[tJ,Yu,Zj]at h;exact fun p hp=>eS.of_few (h.2 p hp)
theorem uU.ok{q:Qn}(h:uU q):OkQ q:=by
 refine⟨fun s hs=>?_,aTt h.2.1,aLp h.2.1⟩;obtain⟨j,hj,rfl⟩:=Zm hs
 have:=h.2.2 j hj
 rw[Yk hj,Yv]at this;unfold maxLen;omega
theorem vZ{l:List Dc}(h:mZ l=true):(∀d∈l,tY d)/\l.length<=20:=by
 simp only[mZ,Yu,Zj,decide_eq_true_eq]at h;refine⟨fun d hd=>?_,h.2⟩;have h1:=h.1 d hd;simp only[yH,Yu,Bool.not_eq_true',decide_eq_false_iff_not]at h1;unfold tY maxLen;omega
theorem pN.len{n:Nd}(h:pN n):n.all.length<=60:=by
 have h1:=(vZ h.1).2;have h2:=(vZ h.2.1).2;have h3:=(vZ h.2.2.1).2;rw[aIl];omega
theorem pN.ok{n:Nd}(h:pN n):OkN n:=by
 refine⟨by have:=h.2.2.2.2.1;unfold maxLen;omega,fun d hd=>?_,fun q hq=>?_⟩
 . simp only[Nd.all,Zr]at hd;rcases hd with(hd|hd)|hd;· exact(vZ h.1).1 d hd
   . exact(vZ h.2.1).1 d hd
   . exact(vZ h.2.2.1).1 d hd
 . obtain⟨j,hj,rfl⟩:=Zm hq
   have:=h.2.2.2.2.2 j hj
   rw[Yk hj,Yv]at this;exact this.ok
def aI3(es:Nat)(l:List Nd):Bool:=l.all (jQ es bK bJ)
def aJ9(l:List Nd):Bool:=l.all fun n=>dC (fW n.all)
def eM(p:Pg):Int:=
 if cG p.es=0 then(if p.ns.length=0 then 5 else if 6<p.ns.length then 4 else if p.ns.any mR then 4 else if aI3 p.es.length p.ns then(if aJ9 p.ns && dC (p.ns.map Nd.nm)then 0 else 6)else 1)else cG p.es
theorem aW4{l:List Nd}{k:Nat}(hk:k<l.length):(l.map Nd.nm).take (k+1)=(l.map Nd.nm).take k++[(l[k]?.getD default).nm]:=by
 rw[List.take_add_one,List.getElem?_map,Yk hk];simp
theorem aSi{α:Type}[Inhabited α]{f:α->Bool}{l:List α}{k:Nat}(hk:k<l.length):(l.take (k+1)).all f=((l.take k).all f && f (l[k]?.getD default)):=by
 rw[List.take_add_one,Yk hk,List.all_append];simp
theorem bLw{α:Type}[Inhabited α]{f:α->Bool}{l:List α}{k:Nat}(hk:k<l.length)(hf:f (l[k]?.getD default)=true):l.any f=true:=by
 rw[Yk hk]at hf;exact List.any_eq_true.2 ⟨_,Zk hk,hf⟩
theorem bZ2{α:Type}[Inhabited α]{f:α->Bool}{l:List α}(h:∀j,j<l.length->f (l[j]?.getD default)=false):l.any f=false:=by
 rw[List.any_eq_false];intro a ha;obtain⟨j,hj,rfl⟩:=Zm ha
 have:=h j hj
 rw[Yk hj]at this;simpa using this
theorem aG6{w:World}{m:Nat}:Below w.heap.size w (w.drewN m):=eP (Yg _ _) m
theorem bKf{w w':World}{g:Nat}{cs:AV}{T:TypeId}{v:Value}(h:w.heap[g]?=some (.cells cs T))(Du:w.grownBy w' v.ownBlock)(Bv:v.ownBlock≠some g):w'.heap[g]?=some (.cells cs T):=
 (Du.block g (Ym.1 h).1 (fun e=>Bv e.symm)).trans h
theorem kP{w w':World}{g:Nat}{cs:AV}{T:TypeId}(h:w.heap[g]?=some (.cells cs T))(hb:Below w.heap.size w w')(j:Nat):w'.cell? ⟨g,j,none⟩=cs[j]?:=by
 have Ah:g<w.heap.size:=(Ym.1 h).1;rw[hb.cell (p:=⟨g,j,none⟩) Ah];exact bD6
theorem aW5(p:Pg)(E:OA)(ec:Nat)(N:OA)(nc:Nat)(w:World)(h:lM w p E N)(ht:qN p):
 Calls Tryz.prog 12 #[.agg (fP p E ec N nc)] w fun e w'=>e=.returned (.int .i64 (eM p))/\Below w.heap.size w w':=by
 have HF:=Hd fun w1 hw=>xL w p E ec N nc w1 hw h;have Ob:=Hd fun w1 a=>bRt E p.es.length ec p.es w1 a ht.1.ok ht.1.few;have Og:=Hd fun x A1 c1 A2 c2 A3 c3 A4 c4 w1 a b c=>bWa E p.es.length ec x A1 c1 A2 c2 A3 c3 A4 c4 w1 (by have:=ht.1.1;omega) a b c;have Oz:=aY.max h.2;have HE:=Hd (show eM p=if cG p.es=0 then(if p.ns.length=0 then 5 else if 6<p.ns.length then 4 else if p.ns.any mR then 4 else if aI3 p.es.length p.ns then(if aJ9 p.ns && dC (p.ns.map Nd.nm)then 0 else 6)else 1)else cG p.es from rfl);have Ow:=Hd ht.2.2;obtain⟨i0,hi,Ma,Ly,Lu⟩:=info_parts vQ;unfold fP;unfold aI3 aJ9 at HE;generalize eM p=Pb at *;go_in
 go_upto_region 1 with(fail);generalize Af:w.alloc _=w1;obtain⟨Ab,hg,Nt,hcell⟩:=HF.o w1 Af;have Ac:=Hd Ab;have HC:=Hd hcell;have On:=Hd (Ob.o w1 Nt.1);have Oq:=Hd (show aY 5 xA w1 N p.ns.length p.ns from Nt.2);simp only[fP]at HC;have q0:=HC.o w1 (Yg _ _) 0;simp only[Ya,Yb,Yc]at q0;clear Af hcell Ab HF h Nt Ob ht;generalize Ov:p.ns=ns at *;generalize Od:ns.length=n at *;have Iv:=Hd Od;generalize p.es.length=ne at *;generalize cG p.es=en at *;clear Od Ov;go_wp2_with fail;refine On.o.mono ?_;rintro e w2 ⟨rfl,Ag⟩;have Ai:=Hd (Ac.o.trans (Ag.mono aA));have Cj:=Hd Ag;have q1:=HC.o w2 Ag 1;have q0:=HC.o w2 Ag 0;have Cr:=Ag.size;simp only[Ya,Yb,Yc]at q0 q1;clear Ag;by_cases Ni:en=0
 . subst Ni;rw[if_pos rfl]at HE;rcases Nat.eq_zero_or_pos n with Dy|Dy;· exact bDn
   . rw[if_neg aA]at HE;have Oy:((n:Int)==0)=false:=aDp;by_cases Oa:6<n
     . rw[if_pos Oa]at HE;exact aJy
     . rw[if_neg Oa]at HE;have d6:decide ((6:Int)<(n:Int))=false:=Xd aA;have Nz:=Hd (World.ownsRow_lit (base:=w2.heap.size) (e:=9) (size:=1) w2 #[] 0 (Yh _) aF rfl);have Cd:=Hd (Cj.o.alloc Cj.o.size (.cells #[] 9));go_wp2_with fail;go_loopw [4,5,6,7] (fun v r o i wr=>∃k:Nat,k<=n/\i=.int .i64 k/\wr.ownsRow w2.heap.size 9 1 v k (((ns.map Nd.nm).take k).map Value.string)/\r=.bool ((ns.take k).all (jQ ne bK bJ))/\o=.bool ((ns.take k).all fun n=>dC (fW n.all))/\(∀j,j<k->mR (ns[j]?.getD default)=false)/\Below w1.heap.size w1 wr/\w2.heap.size<=wr.heap.size) (fun _ _ _ i _=>n-(intOf i).toNat)
       case atStart=>exact⟨0,Ys _,rfl,Nz.o,rfl,rfl,fun j hj=>absurd hj aA,Cd.o,by simp⟩
       case round=>
        obtain⟨k,hk,rfl,Ad,rfl,rfl,Ny,An,Pa⟩:=hrel;have Fs:=Hd Ad;have Nv:=Hd Ny;have Bk:=Hd An;have hz:=An.size;have q0:=HC.o wr An 0;have q1:=HC.o wr An 1;simp only[Ya,Yb,Yc]at q0 q1;clear Ny Ad Nz Cd;by_cases Ah:k<n
        . obtain⟨b,off,rfl,hb,hc⟩:=aY.at_ Oq.o aA;have Ns:=hc k Ah;clear hc;have Nk:=aW4 (l:=ns) (k:=k) aKs;have Cc:=aSi (f:=jQ ne bK bJ) (l:=ns) (k:=k) aKs;have Nj:=aSi (f:=fun n=>dC (fW n.all)) (l:=ns) (k:=k) aKs;have Hc:=Ow.o k Ah;have Mu:=Hd fun hf=>bLw (l:=ns) (f:=mR) (k:=k) aKs hf;have HS:=Hd fun(hf:mR (ns[k]?.getD default)=false)=>qF (P:=fun j=>mR (ns[j]?.getD default)=false) Nv.o hf;generalize ns[k]?.getD default=x at Ns Nk Cc Nj Hc Mu HS;have Eb:=Hd Nk;have HAL:=Hd Cc;have Gg:=Hd Nj;have Nr:=Hd Hc;have Oe:=Hc.len;have Jn:=Hd (show mR x=(decide ((6:Int)<(x.ins.length:Int)) || decide ((6:Int)<(x.outs.length:Int)) || decide ((12:Int)<(x.vars.length:Int)) || decide ((18:Int)<(x.eqs.length:Int))) by
           have hd:∀a b:Nat,decide ((a:Int)<(b:Int))=decide (a<b):=fun a b=>by simp
           have h6:=hd 6;have Cy:=hd 12;have Om:=hd 18;simp only[mR]at *;rw[<-h6,<-h6,<-Cy,<-Om]
           rfl)
          clear Nk Cc Nj Hc;obtain⟨A1,c1,A2,c2,A3,c3,A4,c4,Oc,e0,e1,e2,e3,e4⟩:=Ns.five;have Of:=(An.cell (p:=⟨b,off+k*5,none⟩) hb).trans e0;have Ou:=(An.cell (p:=⟨b,off+k*5+1,none⟩) hb).trans e1;have Oo:=(An.cell (p:=⟨b,off+k*5+2,none⟩) hb).trans e2;have Oh:=(An.cell (p:=⟨b,off+k*5+3,none⟩) hb).trans e3;have Oi:=(An.cell (p:=⟨b,off+k*5+4,none⟩) hb).trans e4;have Nw:=Hd fun w' (hb:Below w1.heap.size w1 w')=>Oc.below hb;have Np:=Hd fun w' hb=>Og.o x A1 c1 A2 c2 A3 c3 A4 c4 w' (Nw.o w' hb) Nr.o.ok (by have:=Nr.o.len;omega);have Nl:=Hd fun w' hb=>aY0 x A1 c1 A2 c2 A3 c3 A4 c4 w' (Nw.o w' hb) (by have:=Nr.o.len;omega);have Cx:=Hd fun zc w4 (hw:(wr.alloc (.cells zc 69)).setRow wr.heap.size (eH x A1 c1 A2 c2 A3 c3 A4 c4)=w4)=>(show w4.heap[wr.heap.size]?=some (.cells (eH x A1 c1 A2 c2 A3 c3 A4 c4) 69)/\Below wr.heap.size wr w4 from⟨by rw[<-hw];exact Xh _ _ _ _ _ _ (Xa _ _),(aMl hw).1⟩);unfold eH at Np Nl;clear e0 e1 e2 e3 e4 Oc Ns An;go_upto_region 13 with(refine Zz rfl _ _ _ rfl wr.heap.size _ rfl rfl _ _ (Xa _ _) bAz rfl eC ?_);generalize Nu:World.setRow _ _ _=w4;obtain⟨Aa,Jx⟩:=Cx.o _ w4 Nu;have Oj:=Hd Aa;have Bd:=Hd (Bk.o.trans (Jx.mono hz));have Ae:=Hd (rM Fs.o Jx);have Pd:=Jx.size;have Ot:wr.heap.size<w4.heap.size:=(Ym.1 Aa).1;have r0:=kP Aa (Yg _ _) 0;have r1:=kP Aa (Yg _ _) 1;have r2:=kP Aa (Yg _ _) 2;have r3:=kP Aa (Yg _ _) 3;have r4:=kP Aa (Yg _ _) 4;simp only[eH,List.getElem?_toArray,Zd,Ze]at r0 r1 r2 r3 r4;have Ol:=Hd (show u4.ownBlock≠some wr.heap.size from fun e=>by have:=(Fs.o.lt _ e).2;omega);clear Nu Aa Jx Cx Of Ou Oo Oh Oi q0 q1;generalize wr.heap.size=gb at *;cases m1:decide ((6:Int)<(x.ins.length:Int))with
          |true=>
           rw[m1]at Jn;exact aJo
          |false=>
           rw[m1]at Jn;cases m2:decide ((6:Int)<(x.outs.length:Int))with
           |true=>
            rw[m2]at Jn;exact aJo
           |false=>
            rw[m2]at Jn;cases m3:decide ((12:Int)<(x.vars.length:Int))with
            |true=>
             rw[m3]at Jn;exact aJo
            |false=>
             rw[m3]at Jn;cases m4:decide ((18:Int)<(x.eqs.length:Int))with
             |true=>
              rw[m4]at Jn;exact aJo
             |false=>
              rw[m4]at Jn;have Cf:=Hd (HS.o (by rw[Jn.o];rfl));go_upto_region 16 with(at_builtin;refine wpList_append_own_at _ rfl _ _ 62 rfl w2.heap.size 9 i0 (.string ByteArray.empty) 1 16 Tryz.underlying62 hi Ma Ly Lu rfl aF _ _ _ rfl (Ae.o.alloc _) ⟨w4.heap.size,0,none⟩ 1 1 [.string x.nm] rfl rfl (cell_one_new _ _ _) (tA [x.nm]) fZ aA cP ?_;intro v' w5 Bb Aw Fc Eg;have Ig:=Hd Bb;have Ng:=Hd Aw;clear Bb Aw Fc Eg);have Bl:=Hd ((Bd.o.alloc Bd.o.size (.cells #[.string x.nm] 9)).grown Ng.o (by have:=Bd.o.size;simp;omega) (fun j hj=>by have:=(Ae.o.lt j hj).1;omega));have Bs:=bKf ((Below.heap_alloc w4 (.cells #[.string x.nm] 9) gb Ot).trans Oj.o) Ng.o Ol.o;have Il:=Hd Bs;have Ox:=Bl.o.size;have Nh:=Ng.o.size;simp at Nh;have s0:=kP Bs (Yg _ _) 0;have s1:=kP Bs (Yg _ _) 1;have s2:=kP Bs (Yg _ _) 2;have s3:=kP Bs (Yg _ _) 3;have s4:=kP Bs (Yg _ _) 4;have s5:=HC.o w5 Bl.o 0;simp only[eH,List.getElem?_toArray,Zd,Ze]at s0 s1 s2 s3 s4 s5;clear r0 r1 r2 r3 r4 Bs;cases hr:(ns.take k).all (jQ ne bK bJ)with
              |false=>
               cases ho:(ns.take k).all (fun n=>dC (fW n.all))with
               |false=>
                have Fp:=Hd Ig.o;have Ej:=Hd Bl.o;exact bHq
               |true=>
                have Fp:=Hd Ig.o;have Ej:=Hd Bl.o;go_wp2_with fail;have Ct:=Hd (Nl.o _ Ej.o);refine Ct.o.mono ?_;rintro e w7 ⟨A9,c9,rfl,Ha,Dr⟩;have Ej:=Hd (Ej.o.tr Dr);have Fp:=Hd (rM Fp.o Dr);have Nq:=Dr.size;have Mw:=Hd (aVb A9 x.all.length c9 x.all _ Ha aA);clear Ha Dr s0 s1 s2 s3 s4 s5;exact bGj
              |true=>
               cases ho:(ns.take k).all (fun n=>dC (fW n.all))with
               |false=>
                have Aq:=Hd (Np.o w5 Bl.o);go_wp2_with fail;refine Aq.o.mono ?_;rintro e w6 ⟨rfl,Bo⟩;have Ej:=Hd (Bl.o.tr Bo);have Fp:=Hd (rM Ig.o Bo);have No:=Bo.size;have t0:=kP Il.o Bo 0;have t1:=kP Il.o Bo 1;have t2:=kP Il.o Bo 2;have t3:=kP Il.o Bo 3;have t4:=kP Il.o Bo 4;simp only[eH,List.getElem?_toArray,Zd,Ze]at t0 t1 t2 t3 t4;clear Bo s0 s1 s2 s3 s4 s5;exact bHq
               |true=>
                have Aq:=Hd (Np.o w5 Bl.o);go_wp2_with fail;refine Aq.o.mono ?_;rintro e w6 ⟨rfl,Bo⟩;have Ej:=Hd (Bl.o.tr Bo);have Fp:=Hd (rM Ig.o Bo);have No:=Bo.size;have t0:=kP Il.o Bo 0;have t1:=kP Il.o Bo 1;have t2:=kP Il.o Bo 2;have t3:=kP Il.o Bo 3;have t4:=kP Il.o Bo 4;simp only[eH,List.getElem?_toArray,Zd,Ze]at t0 t1 t2 t3 t4;clear Bo s0 s1 s2 s3 s4 s5;go_wp2_with fail;have Ct:=Hd (Nl.o _ Ej.o);refine Ct.o.mono ?_;rintro e w7 ⟨A9,c9,rfl,Ha,Dr⟩;have Ej:=Hd (Ej.o.tr Dr);have Fp:=Hd (rM Fp.o Dr);have Nq:=Dr.size;have Mw:=Hd (aVb A9 x.all.length c9 x.all _ Ha aA);clear Ha Dr t0 t1 t2 t3 t4;exact bGj
        . obtain rfl:k=n:=by omega
          have Nm:∀f:Nd->Bool,(ns.take k).all f=ns.all f:=fun f=>by rw[Yz (by rw[Iv.o];exact Yh _)]
          have Ok:=Hd (bZ2 (l:=ns) (f:=mR) fun j hj=>Nv.o j (by rw[<-Iv.o];exact hj));rw[Ok.o,if_neg aC]at HE;have Nn:=Fs.o;rw[Yz (by rw[List.length_map,Iv.o];exact Yh _)]at Nn;obtain⟨A9,c9,rfl,Nx,_⟩:=aS.of_own Nn aA;have Hb:=Hd (aB5 A9 k c9 (ns.map Nd.nm) wr Nx aA);have Ej:=Hd (Ac.o.trans (Bk.o.mono aA));rw[Nm,Nm];clear Nm Nn Nx An;cases hr:ns.all (jQ ne bK bJ)with
          |false=>
           rw[hr]at HE;exact aP2
          |true=>
           rw[hr,if_pos rfl]at HE;cases ho:ns.all (fun n=>dC (fW n.all))with
           |false=>
            rw[ho]at HE;exact aP2
           |true=>
            rw[ho,Bool.true_and]at HE;cases hx:dC (ns.map Nd.nm)with
            |false=>
             rw[hx]at HE Hb;go_wp2_with fail;refine Hb.o.mono ?_;rintro e w9 ⟨rfl,md,rfl⟩;have Ej:=Hd (Ej.o.trans ((aG6 (m:=md)).mono Ej.o.size));exact aP2
            |true=>
             rw[hx,if_pos rfl]at HE;rw[hx]at Hb;go_wp2_with fail;refine Hb.o.mono ?_;rintro e w9 ⟨rfl,md,rfl⟩;have Ej:=Hd (Ej.o.trans ((aG6 (m:=md)).mono Ej.o.size));go_wp2_with fail;go_ret;exact⟨iL HE.o.symm,Ej.o⟩
 . rw[if_neg Ni]at HE;have de:(en==0)=false:=by rw[Xf];exact Ni
   exact aJy
theorem aHn{α:Type}(f:α->Bool):∀(l:List α),decide ((0:Int)<=dL f l 0)=l.any f:=by
 have Aa:∀(l:List α)(i:Nat),decide ((0:Int)<=dL f l i)=l.any f:=by
  intro l;induction l with
  |nil=>intro i;simp[dL]
  |cons a l ih=>
   intro i;rw[dL];cases ha:f a with
   |true=>simp[ha]
   |false=>simp only[List.any_cons,ha,Bool.false_or];rw[if_neg aC];exact ih (i+1)
 exact fun l=>Aa l 0
theorem aTu{f:ByteArray->Bool}:∀{l:LB}{k i:Nat},k<l.length->(∀j,j<k->f (l[j]?.getD ByteArray.empty)=false)->f (l[k]?.getD ByteArray.empty)=true->dL f l i=((i+k:Nat):Int)
 |[],k,i,h,_,_=>by simp at h
 |a::l,0,i,_,_,h=>by
  have h:f a=true:=nZ;simp[dL,h]
 |a::l,k+1,i,hk,hn,h=>by
  have h0:f a=false:=by simpa using hn 0 aA
  rw[dL,h0,if_neg aC,aTu (k:=k) (by simpa using hk) (fun j hj=>by simpa using hn (j+1) aA) nZ];congr 1;omega
theorem aSw{f:ByteArray->Bool}:∀{l:LB}{i:Nat},(∀j,j<l.length->f (l[j]?.getD ByteArray.empty)=false)->dL f l i=-1
 |[],i,_=>rfl
 |a::l,i,hn=>by
  have h0:f a=false:=by simpa using hn 0 aC
  rw[dL,h0,if_neg aC];exact aSw fun j hj=>by simpa using hn (j+1) (by simpa using hj)
theorem bFb{w:World}{A:OA}{n i:Nat}{l:List Nd}(h:kE w A n l)(hi:i<n):
 ∃b off A1 c1 A2 c2 A3 c3 A4 c4,A=some ⟨b,off,none⟩/\b<w.heap.size/\gA w (l[i]?.getD default) A1 A2 A3 A4/\
 w.cell? ⟨b,off+i*5,none⟩=some (.string (l[i]?.getD default).nm)/\w.cell? ⟨b,off+i*5+1,none⟩=some (.slice A1 (l[i]?.getD default).ins.length c1)/\w.cell? ⟨b,off+i*5+2,none⟩=some (.slice A2 (l[i]?.getD default).outs.length c2)/\w.cell? ⟨b,off+i*5+3,none⟩=some (.slice A3 (l[i]?.getD default).vars.length c3)/\w.cell? ⟨b,off+i*5+4,none⟩=some (.slice A4 (l[i]?.getD default).eqs.length c4):=by
 obtain⟨b,off,e,hb,hc⟩:=aY.at_ h aA;obtain⟨A1,c1,A2,c2,A3,c3,A4,c4,h1,h2⟩:=hc i hi;obtain⟨d0,d1,d2,d3,d4⟩:=aM6 h1;exact⟨b,off,A1,c1,A2,c2,A3,c3,A4,c4,e,hb,h2,d0,d1,d2,d3,d4⟩
theorem cCh{w:World}{A:OA}{n i:Nat}{l:List Qn}(h:nD w A n l)(hi:i<n):
 ∃b off,∃B c A' ca B' cb,A=some ⟨b,off,none⟩/\b<w.heap.size/\(aS w B (l[i]?.getD default).ns.length (l[i]?.getD default).ns/\aM w (l[i]?.getD default).x A' B')/\
  w.cell? ⟨b,off+i*7,none⟩=some (.slice B (l[i]?.getD default).ns.length c)/\w.cell? ⟨b,off+i*7+1,none⟩=some (.int .i64 (l[i]?.getD default).x.k)/\w.cell? ⟨b,off+i*7+2,none⟩=some (.int .i64 (l[i]?.getD default).x.n)/\
  w.cell? ⟨b,off+i*7+3,none⟩=some (.string (l[i]?.getD default).x.s)/\w.cell? ⟨b,off+i*7+4,none⟩=some (.int .i64 (l[i]?.getD default).x.op)/\w.cell? ⟨b,off+i*7+5,none⟩=some (.slice A' (l[i]?.getD default).x.arms.length ca)/\w.cell? ⟨b,off+i*7+6,none⟩=some (.slice B' (l[i]?.getD default).x.subs.length cb):=by
 obtain⟨b,off,e,hb,hc⟩:=aY.at_ h aA;obtain⟨B,c,A',ca,B',cb,h0,h1,h2,h3⟩:=hc i hi;obtain⟨c0,c1,c2,c3,c4,c5⟩:=jW h2;exact⟨b,off,B,c,A',ca,B',cb,e,hb,⟨h1,h3⟩,h0,c0,c1,c2,c3,c4,c5⟩
theorem bFc{w:World}{A:OA}{n i:Nat}{l:List Dc}(h:cY w A n l)(hi:i<n):
 ∃b off,A=some ⟨b,off,none⟩/\b<w.heap.size/\w.cell? ⟨b,off+i*6,none⟩=some (.string (l[i]?.getD default).nm)/\w.cell? ⟨b,off+i*6+1,none⟩=some (.int .i64 (l[i]?.getD default).k)/\w.cell? ⟨b,off+i*6+2,none⟩=some (.int .i64 (l[i]?.getD default).e)/\
  w.cell? ⟨b,off+i*6+3,none⟩=some (.int .i64 (l[i]?.getD default).l)/\w.cell? ⟨b,off+i*6+4,none⟩=some (.string (l[i]?.getD default).on)/\w.cell? ⟨b,off+i*6+5,none⟩=some (.string (l[i]?.getD default).ct):=by
 obtain⟨b,off,e,hb,hc⟩:=aY.at_ h aA;exact⟨b,off,e,hb,(hc i hi).six⟩
def aAk(g:Nat)(lb:AV)(f:Nd->Bool)(l:List Nd)(w:World):Prop:=
 ∀x,x∈l->∀(A1:OA)(c1:Nat)(A2:OA)(c2:Nat)(A3:OA)(c3:Nat)(A4:OA)(c4:Nat)(W:World),Below w.heap.size w W->gA W x A1 A2 A3 A4->
  Calls Tryz.prog g (#[.agg (eH x A1 c1 A2 c2 A3 c3 A4 c4)]++lb) W fun e w'=>e=.returned (.bool (f x))/\Below W.heap.size W w'
theorem bOc(g:Nat)(lb:AV)(eg:∀args w,(callFunc g args).run Tryz.prog w=.ok (.enter g args) w)(f:Nd->Bool)(A:OA)(n c:Nat)(l:List Nd)(w:World)(h:kE w A n l)(hf:aAk g lb f l w):
 Calls Tryz.prog 99 #[.slice A n c,.func (.func g) #[] lb] w fun e w'=>e=.returned (.int .i64 (dL f l 0))/\Below w.heap.size w w':=by
 have HR:=Hd h;have HP:=Hd hf;have Cq:=aY.len h;have Bs:=aY.max h;have Aa:=Hd (fun(k:Nat) hk hn hy=>show dL f l 0=(k:Int)by have:=aBt (l:=l) (f:=f) (k:=k) (i:=0) hk hn hy;rwa[Nat.zero_add]at this);have Ey:=Hd (fun hn=>show dL f l 0=-1 from aEo (l:=l) (f:=f) (i:=0) hn);generalize dL f l 0=Aq at *;have Fk:=Hd Cq;clear h hf Cq;unfold aAk at HP;go_in
 go_wp2_with fail;go_loopw [5,8] (fun _ i wr=>∃k:Nat,k<=n/\i=.int .i64 k/\(∀j,j<k->f (l[j]?.getD default)=false)/\Below w.heap.size w wr) (fun _ i _=>n-(intOf i).toNat)
 case atStart=>exact⟨0,Ys _,rfl,fun j hj=>absurd hj aA,Yg _ _⟩
 case round=>
  obtain⟨k,hk,rfl,Ck,An⟩:=hrel;have HT:=Hd Ck;have Bk:=Hd An;clear Ck;by_cases Ah:k<n
  . obtain⟨b,off,A1,c1,A2,c2,A3,c3,A4,c4,rfl,hb,Ae,d0,d1,d2,d3,d4⟩:=bFb (HR.o.below An) Ah;have Bq:=Hd (HP.o _ (aEs pC) A1 c1 A2 c2 A3 c3 A4 c4 wr An Ae);have HH:=Hd (Aa.o k pC HT.o);have HS:=Hd fun(hf:f (l[k]?.getD default)=false)=>qF (P:=fun j=>f (l[j]?.getD default)=false) HT.o hf;clear An  Ae;unfold eH at Bq;generalize l[k]?.getD default=x at d0 d1 d2 d3 d4 Bq HH HS;exact aKx
  . exact aK0
theorem bWc(g:Nat)(lb:AV)(eg:∀args w,(callFunc g args).run Tryz.prog w=.ok (.enter g args) w)(f:Nd->Bool)(A:OA)(n c:Nat)(l:List Nd)(w:World)(h:kE w A n l)(hf:aAk g lb f l w):
 Calls Tryz.prog 47 #[.slice A n c,.func (.func g) #[] lb] w fun e w'=>e=.returned (.bool (l.any f))/\Below w.heap.size w w':=by
 have HI:=Hd (bOc g lb eg f A n c l w h hf);have HA:=Hd (aHn f l);clear h hf;go_in
 go_wp2_with fail;refine HI.o.mono ?_;rintro e w2 ⟨rfl,Ag⟩;have Ai:=Hd Ag;clear Ag;cases ha:l.any f with
 |true=>
  exact aJq
 |false=>
  exact aJp
def aFj(g:Nat)(lb:AV)(f:Dc->Bool)(l:List Dc)(w:World):Prop:=
 ∀x,x∈l->∀(W:World),Below w.heap.size w W->
  Calls Tryz.prog g (#[.agg (gG x)]++lb) W fun e w'=>e=.returned (.bool (f x))/\Below W.heap.size W w'
theorem bOd(g:Nat)(lb:AV)(eg:∀args w,(callFunc g args).run Tryz.prog w=.ok (.enter g args) w)(f:Dc->Bool)(A:OA)(n c:Nat)(l:List Dc)(w:World)(h:cY w A n l)(hf:aFj g lb f l w):
 Calls Tryz.prog 162 #[.slice A n c,.func (.func g) #[] lb] w fun e w'=>e=.returned (.int .i64 (dL f l 0))/\Below w.heap.size w w':=by
 have HR:=Hd h;have HP:=Hd hf;have Cq:=aY.len h;have Aq:=aY.max h;have Aa:=Hd (fun(k:Nat) hk hn hy=>show dL f l 0=(k:Int)by have:=aBt (l:=l) (f:=f) (k:=k) (i:=0) hk hn hy;rwa[Nat.zero_add]at this);have Ey:=Hd (fun hn=>show dL f l 0=-1 from aEo (l:=l) (f:=f) (i:=0) hn);generalize dL f l 0=Ae at *;have Fk:=Hd Cq;clear h hf Cq;unfold aFj at HP;go_in
 go_wp2_with fail;go_loopw [5,8] (fun _ i wr=>∃k:Nat,k<=n/\i=.int .i64 k/\(∀j,j<k->f (l[j]?.getD default)=false)/\Below w.heap.size w wr) (fun _ i _=>n-(intOf i).toNat)
 case atStart=>exact⟨0,Ys _,rfl,fun j hj=>absurd hj aA,Yg _ _⟩
 case round=>
  obtain⟨k,hk,rfl,Ck,An⟩:=hrel;have HT:=Hd Ck;have Bk:=Hd An;clear Ck;by_cases Ah:k<n
  . obtain⟨b,off,rfl,hb,d0,d1,d2,d3,d4,d5⟩:=bFc (HR.o.below An) Ah;have Bq:=Hd (HP.o _ (aEs pC)  wr An);have HH:=Hd (Aa.o k pC HT.o);have HS:=Hd fun(hf:f (l[k]?.getD default)=false)=>qF (P:=fun j=>f (l[j]?.getD default)=false) HT.o hf;clear An;unfold gG at Bq;generalize l[k]?.getD default=x at d0 d1 d2 d3 d4 d5 Bq HH HS;exact aKx
  . exact aK0
theorem aNy(g:Nat)(lb:AV)(eg:∀args w,(callFunc g args).run Tryz.prog w=.ok (.enter g args) w)(f:Dc->Bool)(A:OA)(n c:Nat)(l:List Dc)(w:World)(h:cY w A n l)(hf:aFj g lb f l w):
 Calls Tryz.prog 109 #[.slice A n c,.func (.func g) #[] lb] w fun e w'=>e=.returned (.bool (l.any f))/\Below w.heap.size w w':=by
 have HI:=Hd (bOd g lb eg f A n c l w h hf);have HA:=Hd (aHn f l);clear h hf;go_in
 go_wp2_with fail;refine HI.o.mono ?_;rintro e w2 ⟨rfl,Ag⟩;have Ai:=Hd Ag;clear Ag;cases ha:l.any f with
 |true=>
  exact aJq
 |false=>
  exact aJp
def aI4(g:Nat)(lb:AV)(f:Qn->Bool)(l:List Qn)(w:World):Prop:=
 ∀x,x∈l->∀(B:OA)(c:Nat)(A:OA)(ca:Nat)(D:OA)(cb:Nat)(W:World),Below w.heap.size w W->aS W B x.ns.length x.ns/\aM W x.x A D->
  Calls Tryz.prog g (#[.agg (pV x B c A ca D cb)]++lb) W fun e w'=>e=.returned (.bool (f x))/\Below W.heap.size W w'
theorem bOe(g:Nat)(lb:AV)(eg:∀args w,(callFunc g args).run Tryz.prog w=.ok (.enter g args) w)(f:Qn->Bool)(A:OA)(n c:Nat)(l:List Qn)(w:World)(h:nD w A n l)(hf:aI4 g lb f l w):
 Calls Tryz.prog 163 #[.slice A n c,.func (.func g) #[] lb] w fun e w'=>e=.returned (.int .i64 (dL f l 0))/\Below w.heap.size w w':=by
 have HR:=Hd h;have HP:=Hd hf;have Cq:=aY.len h;have Bs:=aY.max h;have Aa:=Hd (fun(k:Nat) hk hn hy=>show dL f l 0=(k:Int)by have:=aBt (l:=l) (f:=f) (k:=k) (i:=0) hk hn hy;rwa[Nat.zero_add]at this);have Ey:=Hd (fun hn=>show dL f l 0=-1 from aEo (l:=l) (f:=f) (i:=0) hn);generalize dL f l 0=Aq at *;have Fk:=Hd Cq;clear h hf Cq;unfold aI4 at HP;go_in
 go_wp2_with fail;go_loopw [5,8] (fun _ i wr=>∃k:Nat,k<=n/\i=.int .i64 k/\(∀j,j<k->f (l[j]?.getD default)=false)/\Below w.heap.size w wr) (fun _ i _=>n-(intOf i).toNat)
 case atStart=>exact⟨0,Ys _,rfl,fun j hj=>absurd hj aA,Yg _ _⟩
 case round=>
  obtain⟨k,hk,rfl,Ck,An⟩:=hrel;have HT:=Hd Ck;have Bk:=Hd An;clear Ck;by_cases Ah:k<n
  . obtain⟨b,off,B,cB,A1,ca,D,cb,rfl,hb,Ae,d0,d1,d2,d3,d4,d5,d6⟩:=cCh (HR.o.below An) Ah;have Bq:=Hd (HP.o _ (aEs pC) B cB A1 ca D cb wr An Ae);have HH:=Hd (Aa.o k pC HT.o);have HS:=Hd fun(hf:f (l[k]?.getD default)=false)=>qF (P:=fun j=>f (l[j]?.getD default)=false) HT.o hf;clear An  Ae;unfold pV at Bq;generalize l[k]?.getD default=x at d0 d1 d2 d3 d4 d5 d6 Bq HH HS;exact aKx
  . exact aK0
theorem bWd(g:Nat)(lb:AV)(eg:∀args w,(callFunc g args).run Tryz.prog w=.ok (.enter g args) w)(f:Qn->Bool)(A:OA)(n c:Nat)(l:List Qn)(w:World)(h:nD w A n l)(hf:aI4 g lb f l w):
 Calls Tryz.prog 110 #[.slice A n c,.func (.func g) #[] lb] w fun e w'=>e=.returned (.bool (l.any f))/\Below w.heap.size w w':=by
 have HI:=Hd (bOe g lb eg f A n c l w h hf);have HA:=Hd (aHn f l);clear h hf;go_in
 go_wp2_with fail;refine HI.o.mono ?_;rintro e w2 ⟨rfl,Ag⟩;have Ai:=Hd Ag;clear Ag;cases ha:l.any f with
 |true=>
  exact aJq
 |false=>
  exact aJp
def aQe(g:Nat)(lb:AV)(f:ByteArray->Bool)(l:LB)(w:World):Prop:=
 ∀x,x∈l->∀(W:World),Below w.heap.size w W->
  Calls Tryz.prog g (#[.string x]++lb) W fun e w'=>e=.returned (.bool (f x))/\Below W.heap.size W w'
theorem bSf(g:Nat)(lb:AV)(eg:∀args w,(callFunc g args).run Tryz.prog w=.ok (.enter g args) w)(f:ByteArray->Bool)(A:OA)(n c:Nat)(l:LB)(w:World)(h:aS w A n l)(hf:aQe g lb f l w):
 Calls Tryz.prog 196 #[.slice A n c,.func (.func g) #[] lb] w fun e w'=>e=.returned (.int .i64 (dL f l 0))/\Below w.heap.size w w':=by
 have HR:=Hd h;have HP:=Hd hf;have Cq:=aS.len h;have Aq:=aS.max h;have Aa:=Hd (fun(k:Nat) hk hn hy=>show dL f l 0=(k:Int)by have:=aTu (l:=l) (f:=f) (k:=k) (i:=0) hk hn hy;rwa[Nat.zero_add]at this);have Ey:=Hd (fun hn=>show dL f l 0=-1 from aSw (l:=l) (f:=f) (i:=0) hn);generalize dL f l 0=Ae at *;have Fk:=Hd Cq;clear h hf Cq;unfold aQe at HP;go_in
 go_wp2_with fail;go_loopw [5,8] (fun _ i wr=>∃k:Nat,k<=n/\i=.int .i64 k/\(∀j,j<k->f (l[j]?.getD ByteArray.empty)=false)/\Below w.heap.size w wr) (fun _ i _=>n-(intOf i).toNat)
 case atStart=>exact⟨0,Ys _,rfl,fun j hj=>absurd hj aA,Yg _ _⟩
 case round=>
  obtain⟨k,hk,rfl,Ck,An⟩:=hrel;have HT:=Hd Ck;have Bk:=Hd An;clear Ck;by_cases Ah:k<n
  . obtain⟨b,off,rfl,hb,hc⟩:=(HR.o.below An).at_ Ah;have d0:=hc k Ah;have Bq:=Hd (HP.o _ (aW2 pC)  wr An);have HH:=Hd (Aa.o k pC HT.o);have HS:=Hd fun(hf:f (l[k]?.getD ByteArray.empty)=false)=>qF (P:=fun j=>f (l[j]?.getD ByteArray.empty)=false) HT.o hf;clear An hc
    skip
    generalize l[k]?.getD ByteArray.empty=x at d0 Bq HH HS;exact aKx
  . exact aK0
theorem bZ3(g:Nat)(lb:AV)(eg:∀args w,(callFunc g args).run Tryz.prog w=.ok (.enter g args) w)(f:ByteArray->Bool)(A:OA)(n c:Nat)(l:LB)(w:World)(h:aS w A n l)(hf:aQe g lb f l w):
 Calls Tryz.prog 165 #[.slice A n c,.func (.func g) #[] lb] w fun e w'=>e=.returned (.bool (l.any f))/\Below w.heap.size w w':=by
 have HI:=Hd (bSf g lb eg f A n c l w h hf);have HA:=Hd (aHn f l);clear h hf;go_in
 go_wp2_with fail;refine HI.o.mono ?_;rintro e w2 ⟨rfl,Ag⟩;have Ai:=Hd Ag;clear Ag;cases ha:l.any f with
 |true=>
  exact aJq
 |false=>
  exact aJp
theorem bOf{s:BA}(h:eO s=true):aQ s.data.toList=false:=by
 have h:s.data.toList=[]:=by simpa[eO]using h
 rw[h];rfl
def aCn(d:Dc):Bool:=if eO d.on then eO d.ct else aQ d.on.data.toList && sO d.ct
theorem bLx(n:Nat)(d:Dc):gD n bK d=(aQ d.nm.data.toList && bK n d.k d.e d.l && aCn d):=by
 unfold gD aCn;cases h:eO d.on with
 |true=>rw[bOf h];simp
 |false=>simp
theorem cCi(s:BA)(w:World)(hs:s.size<=9223372036854775807):
 Calls Tryz.prog 161 #[.string s] w fun e w'=>e=.returned (.bool (sO s))/\Below w.heap.size w w':=by
 have HH:=Hd (wD s w hs);have HE:=Hd (show sO s=(dF s.data.toList || (s.toList==[116,114,117,101]) || (s.toList==[102,97,108,115,101]))by rw[Zf];rfl);generalize sO s=Aa at *;generalize dF s.data.toList=b at *;cases b with
 |true=>
  exact bH9
 |false=>
  cases h1:(s.toList==[116,114,117,101])with
  |true=>
   rw[h1]at HE;exact bH9
  |false=>
   rw[h1]at HE;cases h2:(s.toList==[102,97,108,115,101])with
   |true=>
    exact bH6
   |false=>
    exact bH6
theorem bWe(d:Dc)(w:World)(ho:tY d):
 Calls Tryz.prog 106 #[.agg (gG d)] w fun e w'=>e=.returned (.bool (aCn d))/\Below w.heap.size w w':=by
 have HF:=Hd fun w1 hw=>zU w d w1 hw;have HL:=Hd fun w1=>kR d.on w1 (by have:=ho.2.1;unfold maxLen at this;omega);have HA:=Hd fun w1=>cCi d.ct w1 (by have:=ho.2.2;unfold maxLen at this;omega);have HE:=Hd (show aCn d=if(d.on.toList==[])then(d.ct.toList==[])else aQ d.on.data.toList && sO d.ct by rw[Zf,Zf];rfl);clear ho;unfold gG at HF⊢;generalize aCn d=Aa at *;generalize aQ d.on.data.toList=lb at *;generalize sO d.ct=ab at *;go_in
 go_upto_region 1 with(fail);generalize Af:w.alloc _=w1;obtain⟨Ab,hg,hcell⟩:=HF.o w1 Af;have Ac:=Hd Ab;have HC:=Hd hcell;have q2:=hcell w1 (Yg _ _) 4;have q3:=hcell w1 (Yg _ _) 5;simp only[Ya,Yb,Yc]at q2 q3;clear Af hcell Ab HF;cases h1:(d.on.toList==[])with
 |true=>
  rw[h1,if_pos rfl]at HE;generalize hc:(d.ct.toList==[])=cb at *;go_wp2_with fail;go_ret;exact⟨aO HE.o.symm,Ac.o⟩
 |false=>
  rw[h1,if_neg aC]at HE;cases lb with
  |false=>
   go_wp2_with fail;refine(HL.o w1).mono ?_;rintro e w2 ⟨rfl,Ag⟩;have Ai:=Hd (Ac.o.tr Ag);clear Ag q2 q3;go_wp2_with fail;go_ret;exact⟨aO HE.o.symm,Ai.o⟩
  |true=>
   go_wp2_with fail;refine(HL.o w1).mono ?_;rintro e w2 ⟨rfl,Ag⟩;have Ai:=Hd (Ac.o.tr Ag);have p3:=HC.o w2 Ag 5;simp only[Ya,Yb,Yc]at p3;clear Ag q2 q3;go_wp2_with fail;refine(HA.o w2).mono ?_;rintro e w3 ⟨rfl,Ak⟩;have Aj:=Hd (Ai.o.tr Ak);clear Ak p3;go_wp2_with fail;go_ret;exact⟨aO HE.o.symm,Aj.o⟩
theorem bFd(d:Dc)(be:Nat)(E:OA)(ne ec:Nat)(w:World)(ho:tY d)(hn:ne<=9223372036854775807)(he:w.cell? ⟨be,0,none⟩=some (.slice E ne ec)):
 Calls Tryz.prog 103 #[.agg (gG d),.pointer (some ⟨be,0,none⟩)] w fun e w'=>e=.returned (.bool (!gD ne bK d))/\Below w.heap.size w w':=by
 have HF:=Hd fun w1 hw=>zU w d w1 hw;have HL:=Hd fun w1=>kR d.nm w1 (by have:=ho.1;unfold maxLen at this;omega);have HR:=Hd fun w1=>bV6 E ne ec d.k d.e d.l w1 hn;have HT:=Hd fun w1=>bWe d w1 ho;have HE:=Hd (bLx ne d);have Ej:=Hd (Yi _ _ he);have Ae:=Hd he;clear ho he;unfold gG at HF HT⊢;unfold vO at HR;generalize gD ne bK d=Aq at *;generalize aQ d.nm.data.toList=lb at *;generalize bK ne d.k d.e d.l=rb at *;generalize aCn d=tb at *;go_in
 go_upto_region 1 with(fail);generalize Af:w.alloc _=w1;obtain⟨Ab,hg,hcell⟩:=HF.o w1 Af;have Ac:=Hd Ab;have HC:=Hd hcell;have q0:=hcell w1 (Yg _ _) 0;simp only[Ya,Yb,Yc]at q0;clear Af hcell Ab HF;cases lb with
 |false=>
  go_wp2_with fail;refine(HL.o w1).mono ?_;exact bCg
 |true=>
  go_wp2_with fail;refine(HL.o w1).mono ?_;rintro e w2 ⟨rfl,Ag⟩;have Ai:=Hd (Ac.o.tr Ag);obtain⟨-,p1,p2,p3,-,-⟩:=Sx (HC.o w2 Ag);simp only[Ya,Yb,Yc]at p1 p2 p3;have pe:=(Ai.o.cell (p:=⟨be,0,none⟩) Ej.o).trans Ae.o;have Cj:=Hd Ag;clear Ag q0;cases rb with
  |false=>
   go_wp2_with fail;refine(HR.o w2).mono ?_;rintro e w3 ⟨rfl,Ak⟩;have Aj:=Hd (Ai.o.tr Ak);clear Ak p1 p2 p3 pe;exact wM
  |true=>
   go_wp2_with fail;refine(HR.o w2).mono ?_;rintro e w3 ⟨rfl,Ak⟩;have Aj:=Hd (Ai.o.tr Ak);have Em:=Cj.o.tr Ak;obtain⟨s0,s1,s2,s3,s4,s5⟩:=Sx (HC.o w3 Em);simp only[Ya,Yb,Yc]at s0 s1 s2 s3 s4 s5;clear Ak p1 p2 p3 pe Em;go_wp2_with fail;refine(HT.o w3).mono ?_;rintro e w4 ⟨rfl,Aa⟩;have Bd:=Hd (Aj.o.tr Aa);clear Aa s0 s1 s2 s3 s4 s5;generalize Na:(!tb)=nt at *;cases nt with
   |true=>
    exact bDr
   |false=>
    exact bDr
theorem bZ4(d:Dc)(bv be:Nat)(E:OA)(ne ec:Nat)(w:World)(ho:tY d)(hn:ne<=9223372036854775807)(he:w.cell? ⟨be,0,none⟩=some (.slice E ne ec))
 (hv:w.cell? ⟨bv,0,none⟩=some (.func (.func 103) #[] #[.pointer (some ⟨be,0,none⟩)])):
 Calls Tryz.prog 107 #[.agg (gG d),.pointer (some ⟨bv,0,none⟩)] w fun e w'=>e=.returned (.bool (!(gD ne bK d && eO d.on)))/\Below w.heap.size w w':=by
 have HF:=Hd fun w1 hw=>zU w d w1 hw;have HV:=Hd fun w1 (hb:Below w.heap.size w w1)=>bFd d be E ne ec w1 ho hn ((hb.cell (p:=⟨be,0,none⟩) (Yi _ _ he)).trans he);have HE:=Hd (show eO d.on=(d.on.toList==[])by rw[Zf];rfl);have Kz:=Hd (Yi _ _ hv);have Aa:=Hd hv;clear ho he hv;unfold gG at HF HV⊢;rw[HE.o];clear HE;generalize gD ne bK d=db at *;go_in
 go_upto_region 1 with(fail);generalize Af:w.alloc _=w1;obtain⟨Ab,hg,hcell⟩:=HF.o w1 Af;have Ac:=Hd Ab;have HC:=Hd hcell;have Ge:=Hd (HV.o w1 Ab);have qv:=(Ab.cell (p:=⟨bv,0,none⟩) Kz.o).trans Aa.o;obtain⟨q0,q1,q2,q3,q4,q5⟩:=Sx (hcell w1 (Yg _ _));simp only[Ya,Yb,Yc]at q0 q1 q2 q3 q4 q5;clear Af hcell Ab HF HV;cases db with
 |false=>
  go_wp2_with fail;refine Ge.o.mono ?_;rintro e w2 ⟨rfl,Ag⟩;have Ai:=Hd (Ac.o.tr Ag);clear Ag q0 q1 q2 q3 q4 q5 qv;go_wp2_with fail;go_ret;exact⟨rfl,Ai.o⟩
 |true=>
  go_wp2_with fail;refine Ge.o.mono ?_;rintro e w2 ⟨rfl,Ag⟩;have Ai:=Hd (Ac.o.tr Ag);have p4:=HC.o w2 Ag 4;simp only[Ya,Yb,Yc]at p4;clear Ag q0 q1 q2 q3 q4 q5 qv;have Bv:(d.on.toList !=[])=!(d.on.toList==[]):=rfl;cases h1:(d.on.toList==[])with
  |true=>
   exact bD0
  |false=>
   exact bD0
def uV(x:Nd)(k:Nat):List Dc:=match k with|0=>[]|1=>x.ins|2=>x.ins++x.outs|_=>x.all
theorem aTv(x:Nd){k:Nat}(h:k<3):uV x (k+1)=uV x k++wO x k:=by
 match k,h with
 |0,_=>rfl
 |1,_=>rfl
 |2,_=>rfl
theorem aW6(x:Nd){k:Nat}(h:k<=3):(uV x k).length<=x.all.length:=by
 match k,h with
 |0,_=>exact Ys _
 |1,_=>simp[uV,Nd.all]
 |2,_=>simp[uV,Nd.all]
 |3,_=>exact Yh _
theorem bOg(x:Nd)(A1:OA)(c1:Nat)(A2:OA)(c2:Nat)(A3:OA)(c3:Nat)(A4:OA)(b:Nat)(w:World)(h:gA w x A1 A2 A3 A4)
 (hc:∀j,w.cell? ⟨b,j,none⟩=(aOp x A1 c1 A2 c2 A3 c3)[j]?)(hb:b<w.heap.size)(hn:x.all.length<=7000):
 Calls Tryz.prog 114 #[.slice (some ⟨b,0,none⟩) 3 3] w (aVc w x.all.length x.all):=by
 obtain⟨i0,z0,hi,Co,Cm,Cr,Ni⟩:=zM aH3;have Fq:=Hd fun(w:World)(h:gA w x A1 A2 A3 A4)(k:Nat) hk=>bSe (c1:=c1) (c2:=c2) (c3:=c3) h (k:=k) hk;have HC:=Hd hc;have HR:=Hd h;have HB:=Hd hb;have Ix:=Hd fun(k:Nat) hk=>aTv x (k:=k) hk;have Jx:=Hd fun(k:Nat) hk=>(show(uV x k).length<=7000 from Yr (aW6 x (k:=k) hk) hn);have Ae:=Hd (show uV x 3=x.all from rfl);have Aq:=Hd (show uV x 0=[]from rfl);have Hc:=Hd fun w1=>bWb x.all.length w1 aA;have Ha:=Hd fun(k:Nat) hk=>(show(uV x k).length+(wO x k).length<=7000 by rw[<-Yo,<-aTv x hk];exact Yr (aW6 x (k:=k+1) aA) hn);clear h hc hb hn;generalize uV x=Aa at *;generalize x.all=all at *;go_in
 go_wp2_with fail;go_loopw [3,11] (fun s i wr=>∃k:Nat,k<=3/\i=.int .i64 k/\s=.int .i64 (Aa k).length/\wr=w) (fun _ i _=>3-(intOf i).toNat)
 case atStart=>exact⟨0,by omega,rfl,by rw[Aq.o];rfl,rfl⟩
 case round=>
  obtain⟨k,hk,rfl,rfl,rfl⟩:=hrel;by_cases Ah:k<3
  . obtain⟨A,c,Bs,-⟩:=Fq.o wr HR.o k Ah;have e0:=HC.o k;rw[Bs]at e0;have Nh:=Ha.o k Ah;have HS:=Hd (show(Aa (k+1)).length=(Aa k).length+(wO x k).length by rw[Ix.o k Ah,Yo]);clear Bs;generalize Hb:(Aa k).length=n1 at *;generalize Ng:(wO x k).length=m1 at *;have d0:decide (((n1:Int)+(m1:Int))<0)=false:=Xd aA;clear Hb Ng;go_wp2_with fail;go_roundw;case rel=>exact⟨k+1,by omega,by go_num,by rw[HS.o];go_num,lY⟩
    case measure=>simp[intOf];omega
  . obtain rfl:k=3:=by omega
    rw[Ae.o];go_wp2_with fail;refine(Hc.o wr).mono ?_;rintro e w2 ⟨v,rfl,Ao,Ag⟩;have Gl:=Hd Ao;have Ai:=Hd Ag;clear Ao Ag;go_wp2_with fail;generalize wr=w at *;go_loopw [6,27] (fun v i wr=>∃k:Nat,k<=3/\i=.int .i64 k/\wr.ownsRow w.heap.size 130 6 v (Aa k).length (eY (Aa k))/\Below w.heap.size w wr) (fun _ i _=>3-(intOf i).toNat)
    case atStart=>exact⟨0,by omega,rfl,by rw[Aq.o];exact Gl.o,Ai.o⟩
    case round=>
     obtain⟨k,hk,rfl,Ao,An⟩:=hrel;have HO:=Hd Ao;have Bk:=Hd An;clear Ao;by_cases Ah:k<3
     . obtain⟨A,c,Bs,Ct⟩:=Fq.o wr (HR.o.below An) k Ah;have e0:=(An.cell (p:=⟨b,k,none⟩) HB.o).trans (HC.o k);rw[Bs]at e0;have Fs:=Hd Ct;have Nh:=Ha.o k Ah;have HS:=Hd (Ix.o k Ah);clear Bs Ct An;go_wp2_with (at_builtin;refine bI8 rfl _ _ 66 rfl w.heap.size 130 i0 z0 72 Tryz.underlying66 hi Co Cm Cr Ni _ (Aa k).length (Aa k) rfl HO.o A (wO x k).length c (wO x k) rfl Fs.o fZ aA Bk.o.size ?_;intro v' w5 Bb Aw;have Jv:=Bk.o.grown Aw Bk.o.size (fun j hj=>(HO.o.lt j hj).1);have Ig:=Hd Bb;have Bl:=Hd Jv;clear Bb Aw Jv);go_roundw;case rel=>exact⟨k+1,by omega,by go_num,by rw[HS.o,Yo];exact Ig.o,Bl.o⟩
       case measure=>simp[intOf];omega
     . obtain rfl:k=3:=by omega
       rw[Ae.o]at HO;have hO:=HO.o;obtain⟨A,c,rfl,Ct⟩:=cY.of_own hO (by have:=Jx.o 3 aA;rw[Ae.o]at this;omega);have Fs:=Hd Ct;clear hO Ct;go_wp2_with fail;go_ret;exact⟨A,c,rfl,Fs.o,Bk.o⟩
end
section
set_option maxRecDepth 100000
open Go.RowKit Go.ChangeShapes Go.WideShapes Go.Deep
theorem bSg:Tryz.prog.cellsOf 66=1:=aE
theorem bSh:Tryz.prog.cellsOf 67=1:=aE
theorem bSi:Tryz.prog.cellsOf 24=1:=aE
theorem bSj:Tryz.prog.cellsOf 23=1:=aE
theorem bSk:Tryz.prog.cellsOf 26=2:=aE
theorem bOh:Tryz.prog.cellsOf 79=6:=aE
section
variable {H:Type}{enc:TypeId × Value->H}{w:World}{base:Nat}{spare:Nat->Bool}{held:Bool}
theorem aM8{α:Type}[Inhabited α]{k:Nat}{T ST:TypeId}{At:World->Nat->Nat->α->Prop}(hu:Tryz.prog.underlying ST=some (.slice T))(Ct:Tryz.prog.cellsOf T=k)(hk:0<k)
 (h1:∀{w:World}{b o:Nat}{x:α},At w b o x->∃v,w.cell? ⟨b,o,none⟩=some v)
 (Ae:∀{fuel:Nat}{cs:LV}{x:DataW H × List MemPlace},DataW.trod enc Tryz.prog w base spare held fuel T cs=some x->cs.length=k->∃e:α,∀b o,(∀j v,cs[j]?=some v->w.cell? ⟨b,o+j,none⟩=some v)->At w b o e)
 {fuel:Nat}{A:OA}{n c:Nat}{x:DataW H × List MemPlace}(h:DataW.trod enc Tryz.prog w base spare held fuel ST [.slice A n c]=some x):∃l,aY k At w A n l:=by
 rcases open_slice hu h with⟨hcs,_⟩|⟨a,len,cap,m,nn,D,Pl,hcs,_,hl,hm,hmm,_,hi⟩
 . simp at hcs;obtain⟨rfl,rfl,rfl⟩:=hcs;exact⟨[],aY.nil_ _ _ _⟩
 . simp at hcs;obtain⟨rfl,rfl,rfl⟩:=hcs;have Ng:n<=m:=by rw[hmm];split<;>omega
   have Hc:0<n->a.spot=none:=fun hn=>by
    obtain⟨Hb,hc,ht⟩:=hi 0 aA;rw[Ct]at hc;obtain⟨_,Bs,Ar⟩:=World.cells?_some hc;have h0:=Ar (i:=0) hk;rw[Yk aA]at h0;simpa[Addr.add]using World.cell?_spot h0
   have hf:∀i,i<n->∃e:α,∀b off,a=⟨b,off,none⟩->At w b (off+i*k) e:=by
    intro i Jx;obtain⟨Hb,hc,ht⟩:=hi i aA;rw[Ct]at hc;obtain⟨_,Bs,Ar⟩:=World.cells?_some hc;obtain⟨e,he⟩:=Ae ht Bs;refine⟨e,fun b off ea=>he b (off+i*k) fun j v hv=>?_⟩;have hj:j<k:=by
     rcases Nat.lt_or_ge j k with h|h;· exact h
     . rw[List.getElem?_eq_none aA]at hv;cases hv
    have h2:=Ar (i:=j) hj;rw[hv]at h2;have Fd:∀i,(⟨b,off,none⟩:Addr).add i=⟨b,off+i,none⟩:=fun i=>by unfold Addr.add;split<;>simp_all
    rw[Go.Deep.add_add,ea,Fd,<-Nat.add_assoc]at h2;exact h2
   obtain⟨f,hf⟩:=choose_lt (α:=α) hf;have Aq:∀i,i<n->((List.range n).map f)[i]?.getD default=f i:=fun i hi=>by simp[List.getElem?_map,List.getElem?_range hi]
   refine⟨(List.range n).map f,by simp,by unfold maxLen at hm;omega,fun hn=>?_⟩;obtain⟨b,off,Fs⟩:=a;have Aa:=Hc hn;simp only at Aa;subst Aa;have h0:=hf 0 hn b off rfl;obtain⟨v0,Ha⟩:=h1 h0;exact⟨b,off,rfl,Yi _ _ Ha,fun i hi=>by rw[Aq i hi];exact hf i hi b off rfl⟩
theorem bWf{fuel:Nat}{cs:LV}{x:DataW H × List MemPlace}(h:DataW.trod enc Tryz.prog w base spare held fuel 130 cs=some x)(hl:cs.length=6):∃d:Dc,cs=dcL d:=by
 obtain⟨ys,m,_,_,_,hy,hf⟩:=DataW.trod_struct Tryz.underlying130 h
 match cs,hl with
 |[v0,v1,v2,v3,v4,v5],_=>
  match ys,hy with
  |[y0,y1,y2,y3],_=>
   have t0:=hf 0 _ rfl;have t1:=hf 1 _ rfl;have t2:=hf 2 _ rfl;have t3:=hf 3 _ rfl;simp[aNt,bR8]at t0 t1 t2 t3;obtain⟨s0,e0,_,_⟩:=DataW.trod_string Tryz.underlying9 t0;obtain⟨tk,te,tl,e1⟩:=bSb t1 rfl;obtain⟨s2,e2,_,_⟩:=DataW.trod_string Tryz.underlying9 t2;obtain⟨s3,e3,_,_⟩:=DataW.trod_string Tryz.underlying9 t3;injection e0 with e0;injection e1 with e1 Ae;injection Ae with Ae Aa;injection Aa with Aa;injection e2 with e2;injection e3 with e3;subst e0 e1 Ae Aa e2 e3;exact⟨⟨s0,tk,te,tl,s2,s3⟩,rfl⟩
theorem aL1{fuel:Nat}{v:Value}{x:DataW H × List MemPlace}(h:DataW.trod enc Tryz.prog w base spare held fuel 66 [v]=some x):∃A n c l,v=.slice A n c/\cY w A n l:=by
 obtain⟨A,n,c,rfl⟩:∃A n c,v=.slice A n c:=by
  rcases open_slice Tryz.underlying66 h with⟨hcs,_⟩|⟨a,len,cap,m,nn,D,Pl,hcs,_⟩;· exact aC5
  . exact aC5
 obtain⟨l,hl⟩:=aM8 (α:=Dc) (k:=6) (At:=oC) Tryz.underlying66 bR2 aF (fun h=>⟨_,h 0 _ rfl⟩) (fun ht hl=>by
  obtain⟨d,rfl⟩:=bWf ht hl;exact⟨d,fun b o hc j v hv=>hc j v hv⟩) h
 exact⟨A,n,c,l,rfl,hl⟩
end
end
section
open Go.RowKit Go.ChangeShapes Go.WideShapes Go.Deep
set_option maxRecDepth 100000
def aQf(w:World)(b o:Nat)(q:Qn):Prop:=
 ∃A c A' ca B' cb,w.cell? ⟨b,o,none⟩=some (.slice A q.ns.length c)/\aS w A q.ns.length q.ns/\w.rangeAt b (o+1) (dB q.x A' ca B' cb)/\aM w q.x A' B'/\sU q.x/\q.x.subs.length<=cb/\iU w q.x B'
def tV(w:World)(A:OA)(n:Nat)(l:List Qn):Prop:=aY 7 aQf w A n l
def tW(w:World)(n:Nd)(A1 A2 A3 A4:OA):Prop:=gA w n A1 A2 A3 A4/\tV w A4 n.eqs.length n.eqs
def aQg(w:World)(b o:Nat)(n:Nd):Prop:=
 ∃A1 c1 A2 c2 A3 c3 A4 c4,w.rangeAt b o (ndL n A1 c1 A2 c2 A3 c3 A4 c4)/\tW w n A1 A2 A3 A4
def yI(w:World)(A:OA)(n:Nat)(l:List Nd):Prop:=aY 5 aQg w A n l
def vJ(w:World)(p:Pg)(E N:OA):Prop:=cQ w E p.es.length p.es/\yI w N p.ns.length p.ns
theorem aY.mono{α:Type}[Inhabited α]{k:Nat}{At At':World->Nat->Nat->α->Prop}{w:World}{A:OA}{n:Nat}{l:List α}(h:aY k At w A n l)(hm:∀b o x,At w b o x->At' w b o x):aY k At' w A n l:=
 ⟨h.1,h.2.1,fun hn=>by
  obtain⟨b,off,e,hb,hc⟩:=h.2.2 hn;exact⟨b,off,e,hb,fun i hi=>hm _ _ _ (hc i hi)⟩⟩
section
variable {w w':World}{A A1 A2 A3 A4 E N:OA}{n:Nat}
theorem tV.plain{l:List Qn}(h:tV w A n l):nD w A n l:=aY.mono h fun b o x hx=>by
 obtain⟨B,c,A',ca,B',cb,h1,h2,h3,h4,_⟩:=hx;exact⟨B,c,A',ca,B',cb,h1,h2,h3,h4⟩
theorem yI.plain{l:List Nd}(h:yI w A n l):kE w A n l:=aY.mono h fun b o x hx=>by
 obtain⟨A1,c1,A2,c2,A3,c3,A4,c4,h1,h2,_⟩:=hx;exact⟨A1,c1,A2,c2,A3,c3,A4,c4,h1,h2⟩
theorem vJ.plain{p:Pg}(h:vJ w p E N):lM w p E N:=⟨h.1,h.2.plain⟩
theorem bOi:aB8 aQf:=fun h hb hs hk=>by
 obtain⟨A,c,A',ca,B',cb,h1,h2,h3,h4,h5,h6,h7⟩:=h;exact⟨A,c,A',ca,B',cb,(hk _ hb).trans h1,h2.keep hs hk,uE h3 hb hk,h4.keep hs hk,h5,h6,aMk hk _ _ _ h4 h7⟩
theorem tV.keep{l:List Qn}(h:tV w A n l)(hs:w.heap.size<=w'.heap.size)(hk:∀p:Addr,p.block<w.heap.size->w'.cell? p=w.cell? p):tV w' A n l:=aY.keep bOi h hs hk
theorem tV.below{l:List Qn}(h:tV w A n l)(hb:Below w.heap.size w w'):tV w' A n l:=h.keep hb.size fun _ hp=>hb.cell hp
theorem tW.keep{x:Nd}(h:tW w x A1 A2 A3 A4)(hs:w.heap.size<=w'.heap.size)(hk:∀p:Addr,p.block<w.heap.size->w'.cell? p=w.cell? p):tW w' x A1 A2 A3 A4:=⟨h.1.keep hs hk,h.2.keep hs hk⟩
theorem tW.below{x:Nd}(h:tW w x A1 A2 A3 A4)(hb:Below w.heap.size w w'):tW w' x A1 A2 A3 A4:=h.keep hb.size fun _ hp=>hb.cell hp
theorem bOj:aB8 aQg:=fun h hb hs hk=>by
 exact bC2
theorem yI.below{l:List Nd}(h:yI w A n l)(hb:Below w.heap.size w w'):yI w' A n l:=aY.keep bOj h hb.size fun _ hp=>hb.cell hp
theorem vJ.below{p:Pg}(h:vJ w p E N)(hb:Below w.heap.size w w'):vJ w' p E N:=⟨h.1.below hb,h.2.below hb⟩
theorem aOq{i:Nat}{l:List Nd}(h:yI w A n l)(hi:i<n):
 ∃b off A1 c1 A2 c2 A3 c3 A4 c4,A=some ⟨b,off,none⟩/\b<w.heap.size/\tW w (l[i]?.getD default) A1 A2 A3 A4/\
 w.cell? ⟨b,off+i*5,none⟩=some (.string (l[i]?.getD default).nm)/\w.cell? ⟨b,off+i*5+1,none⟩=some (.slice A1 (l[i]?.getD default).ins.length c1)/\w.cell? ⟨b,off+i*5+2,none⟩=some (.slice A2 (l[i]?.getD default).outs.length c2)/\w.cell? ⟨b,off+i*5+3,none⟩=some (.slice A3 (l[i]?.getD default).vars.length c3)/\w.cell? ⟨b,off+i*5+4,none⟩=some (.slice A4 (l[i]?.getD default).eqs.length c4):=by
 obtain⟨b,off,e,hb,hc⟩:=aY.at_ h aA;obtain⟨A1,c1,A2,c2,A3,c3,A4,c4,h1,h2⟩:=hc i hi;obtain⟨d0,d1,d2,d3,d4⟩:=aM6 h1;exact⟨b,off,A1,c1,A2,c2,A3,c3,A4,c4,e,hb,h2,d0,d1,d2,d3,d4⟩
theorem aI5{i:Nat}{l:List Qn}(h:tV w A n l)(hi:i<n):
 ∃b off,∃B c A' ca B' cb,A=some ⟨b,off,none⟩/\b<w.heap.size/\(aS w B (l[i]?.getD default).ns.length (l[i]?.getD default).ns/\aM w (l[i]?.getD default).x A' B'/\sU (l[i]?.getD default).x/\(l[i]?.getD default).x.subs.length<=cb/\iU w (l[i]?.getD default).x B')/\
  w.cell? ⟨b,off+i*7,none⟩=some (.slice B (l[i]?.getD default).ns.length c)/\w.cell? ⟨b,off+i*7+1,none⟩=some (.int .i64 (l[i]?.getD default).x.k)/\w.cell? ⟨b,off+i*7+2,none⟩=some (.int .i64 (l[i]?.getD default).x.n)/\
  w.cell? ⟨b,off+i*7+3,none⟩=some (.string (l[i]?.getD default).x.s)/\w.cell? ⟨b,off+i*7+4,none⟩=some (.int .i64 (l[i]?.getD default).x.op)/\w.cell? ⟨b,off+i*7+5,none⟩=some (.slice A' (l[i]?.getD default).x.arms.length ca)/\w.cell? ⟨b,off+i*7+6,none⟩=some (.slice B' (l[i]?.getD default).x.subs.length cb):=by
 obtain⟨b,off,e,hb,hc⟩:=aY.at_ h aA;obtain⟨B,c,A',ca,B',cb,h0,h1,h2,h3,h4,h5,h6⟩:=hc i hi;obtain⟨c0,c1,c2,c3,c4,c5⟩:=jW h2;exact⟨b,off,B,c,A',ca,B',cb,e,hb,⟨h1,h3,h4,h5,h6⟩,h0,c0,c1,c2,c3,c4,c5⟩
end
section
variable {H:Type}{enc:TypeId × Value->H}{w:World}{base:Nat}{spare:Nat->Bool}{held:Bool}
theorem bSl{fuel:Nat}{cs:LV}{x:DataW H × List MemPlace}(h:DataW.trod enc Tryz.prog w base spare held fuel 81 cs=some x)(hl:cs.length=7):
 ∃(q:Qn)(A:OA)(c:Nat)(A':OA)(ca:Nat)(B':OA)(cb:Nat),cs=.slice A q.ns.length c::dB q.x A' ca B' cb/\aS w A q.ns.length q.ns/\aM w q.x A' B'/\sU q.x/\q.x.subs.length<=cb/\iU w q.x B':=by
 obtain⟨ys,m,_,_,_,hy,hf⟩:=DataW.trod_struct Tryz.underlying81 h
 match cs,hl with
 |[v0,v1,v2,v3,v4,v5,v6],_=>
  match ys,hy with
  |[y0,y1],_=>
   have t0:=hf 0 _ rfl;have t1:=hf 1 _ rfl;simp[aWr,bOh]at t0 t1;obtain⟨A,n,c,ss,rfl,hr,_⟩:=aTf t0;obtain⟨X,A',ca,B',cb,e1,hx,Aa,Cb,Ae⟩:=bN9 _ t1 rfl;have hn:=hr.len;subst hn;exact⟨⟨ss,X⟩,A,c,A',ca,B',cb,by rw[e1],hr,hx,Aa,Cb,Ae⟩
theorem bOk{fuel:Nat}{v:Value}{x:DataW H × List MemPlace}(h:DataW.trod enc Tryz.prog w base spare held fuel 67 [v]=some x):∃A n c l,v=.slice A n c/\tV w A n l:=by
 obtain⟨A,n,c,rfl⟩:∃A n c,v=.slice A n c:=by
  rcases open_slice Tryz.underlying67 h with⟨hcs,_⟩|⟨a,len,cap,m,nn,D,Pl,hcs,_⟩;· exact aC5
  . exact aC5
 obtain⟨l,hl⟩:=aM8 (α:=Qn) (k:=7) (At:=aQf) Tryz.underlying67 bR3 aF (fun h=>by obtain⟨A,c,A',ca,B',cb,h1,_⟩:=h;exact⟨_,h1⟩) (fun ht hl=>by
  obtain⟨q,A,c,A',ca,B',cb,rfl,h1,h2,h3,h4,h5⟩:=bSl ht hl;refine⟨q,fun b o hc=>⟨A,c,A',ca,B',cb,hc 0 _ rfl,h1,fun j v hv=>?_,h2,h3,h4,h5⟩⟩
  have:=hc (j+1) v hv
  rwa[show o+(j+1)=o+1+j by omega]at this) h
 exact⟨A,n,c,l,rfl,hl⟩
theorem bSm{fuel:Nat}{cs:LV}{x:DataW H × List MemPlace}(h:DataW.trod enc Tryz.prog w base spare held fuel 69 cs=some x)(hl:cs.length=5):
 ∃(n:Nd)(A1:OA)(c1:Nat)(A2:OA)(c2:Nat)(A3:OA)(c3:Nat)(A4:OA)(c4:Nat),cs=ndL n A1 c1 A2 c2 A3 c3 A4 c4/\tW w n A1 A2 A3 A4:=by
 obtain⟨ys,m,_,_,_,hy,hf⟩:=DataW.trod_struct Tryz.underlying69 h
 match cs,hl with
 |[v0,v1,v2,v3,v4],_=>
  match ys,hy with
  |[y0,y1,y2,y3,y4],_=>
   have t0:=hf 0 _ rfl;have t1:=hf 1 _ rfl;have t2:=hf 2 _ rfl;have t3:=hf 3 _ rfl;have t4:=hf 4 _ rfl;simp[aNt,bSg,bSh]at t0 t1 t2 t3 t4;obtain⟨s0,e0,_,_⟩:=DataW.trod_string Tryz.underlying9 t0;injection e0 with e0;subst e0;obtain⟨A1,n1,c1,l1,rfl,r1⟩:=aL1 t1;obtain⟨A2,n2,c2,l2,rfl,r2⟩:=aL1 t2;obtain⟨A3,n3,c3,l3,rfl,r3⟩:=aL1 t3;obtain⟨A4,n4,c4,l4,rfl,r4⟩:=bOk t4;have h1:=aY.len r1;have h2:=aY.len r2;have h3:=aY.len r3;have h4:=aY.len r4;subst h1 h2 h3 h4;exact⟨⟨s0,l1,l2,l3,l4⟩,A1,c1,A2,c2,A3,c3,A4,c4,rfl,⟨r1,r2,r3,r4.plain⟩,r4⟩
theorem bKg{fuel:Nat}{v:Value}{x:DataW H × List MemPlace}(h:DataW.trod enc Tryz.prog w base spare held fuel 24 [v]=some x):∃A n c l,v=.slice A n c/\yI w A n l:=by
 obtain⟨A,n,c,rfl⟩:∃A n c,v=.slice A n c:=by
  rcases open_slice Tryz.underlying24 h with⟨hcs,_⟩|⟨a,len,cap,m,nn,D,Pl,hcs,_⟩;· exact aC5
  . exact aC5
 obtain⟨l,hl⟩:=aM8 (α:=Nd) (k:=5) (At:=aQg) Tryz.underlying24 bR4 aF (fun h=>by obtain⟨A1,c1,A2,c2,A3,c3,A4,c4,h1,_⟩:=h;exact⟨_,h1 0 _ rfl⟩) (fun ht hl=>by
  obtain⟨x,A1,c1,A2,c2,A3,c3,A4,c4,rfl,h1⟩:=bSm ht hl;exact⟨x,fun b o hc=>⟨A1,c1,A2,c2,A3,c3,A4,c4,fun j v hv=>hc j v hv,h1⟩⟩) h
 exact⟨A,n,c,l,rfl,hl⟩
theorem pg_openC{v:Value}{d:DataW H}{ps:List MemPlace}{r:Reach}{b0:Nat}(hv:Value.okWide Tryz.prog w r b0 26 v)(h:DataW.Trod enc Tryz.prog w base spare held 26 v d ps):
 ∃(p:Pg)(E:OA)(ec:Nat)(N:OA)(nc:Nat),v=.agg (fP p E ec N nc)/\vJ w p E N:=by
 obtain⟨cs,rfl,hs⟩:=okWide_struct Tryz.underlying26 hv;obtain⟨fuel,hf⟩:=h;rw[bSk]at hs;have hl:(Value.agg cs).cells.toList.length=2:=by simpa[Value.cells]using hs
 obtain⟨ys,m,_,_,_,hy,Aa⟩:=DataW.trod_struct Tryz.underlying26 hf;obtain⟨v0,v1,hcs⟩:∃v0 v1,(Value.agg cs).cells.toList=[v0,v1]:=by
  match (Value.agg cs).cells.toList,hl with
  |[v0,v1],_=>exact⟨v0,v1,rfl⟩
 rw[hcs]at Aa
 match ys,hy with
 |[y0,y1],_=>
  have t0:=Aa 0 _ rfl;have t1:=Aa 1 _ rfl;simp[bSj,bSi]at t0 t1;obtain⟨N,nn,nc,ns,rfl,hN⟩:=bKg t1;obtain⟨E,en,ec,rfl⟩:∃A n c,v0=.slice A n c:=by
   rcases open_slice Tryz.underlying23 t0 with⟨h2,_⟩|⟨a,len,cap,m,nn,D,Pl,h2,_⟩;· simp at h2;exact⟨_,_,_,h2⟩
   . simp at h2;exact⟨_,_,_,h2⟩
  obtain⟨es,hE⟩:=bLu t0;have h1:=hE.len;have h2:=aY.len hN;subst h1 h2;refine⟨⟨es,ns⟩,E,ec,N,nc,?_,hE,hN⟩;congr 1;apply Array.toList_inj.1;simpa[Value.cells,fP]using hcs
end
end
end Go.Proofs.YtagkcjpoipcpkaaGreatDoor
