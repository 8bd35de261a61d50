/- Parts of the proof: PgP, ScM, ScA, ScB, ScC. Conditions: each theorem's own. -/
import Derived.Test.YtegjgiofmpolnaaGreatC11
namespace Go.Proofs.YtegjgiofmpolnaaGreat
set_option linter.unusedVariables false
set_option linter.unusedSimpArgs false
set_option maxRecDepth 100000
set_option maxHeartbeats 40000000
section
open Go.RowKit Go.Sort
theorem tD{x:Ex}(h:kO x=true):bG x<=1000000:=by
 simp only [kO,Ys,decide_eq_true_eq] at h;omega
theorem sW{x:Ex}(h:kO x=true):∀ p∈bI x,cL p:=by
 simp only [kO,Ys,Zf] at h;exact fun p hp=>cL.of_few (h.2 p hp)
theorem oL.ok{q:Qn}(h:oL q):sT q:=by
 refine⟨fun s hs=>?_,tD h.2.1,sW h.2.1⟩;obtain⟨j,hj,rfl⟩:=Zi hs;have:=h.2.2 j hj;rw [Yk hj,Yt] at this;unfold maxLen;omega
theorem mC{l:List Dc}(h:iK l=true):(∀ d∈l,lN d)/\l.length<=20:=by
 simp only [iK,Ys,Zf,decide_eq_true_eq] at h;refine⟨fun d hd=>?_,h.2⟩;have h1:=h.1 d hd;simp only [pN,Ys,Bool.not_eq_true',decide_eq_false_iff_not] at h1;unfold lN maxLen;omega
theorem jC.len{n:Nd}(h:jC n):n.all.length<=60:=by
 have h1:=(mC h.1).2;have h2:=(mC h.2.1).2;have h3:=(mC h.2.2.1).2;rw [oB];omega
theorem jC.ok{n:Nd}(h:jC n):zN n:=by
 refine⟨by have:=h.2.2.2.2.1;unfold maxLen;omega,fun d hd=>?_,fun q hq=>?_⟩
 . simp only [Nd.all,Zn] at hd;rcases hd with(hd | hd) | hd
   . exact(mC h.1).1 d hd
   . exact(mC h.2.1).1 d hd
   . exact(mC h.2.2.1).1 d hd
 . obtain⟨j,hj,rfl⟩:=Zi hq;have:=h.2.2.2.2.2 j hj;rw [Yk hj,Yt] at this;exact this.ok
def pI(es:Nat) (l:List Nd):Bool:=l.all (gH es bH bB)
def sJ(l:List Nd):Bool:=l.all fun n=>bP (bD n.all)
def dO(p:Pg):Int:=
 if cV p.es=0 then(if p.ns.length=0 then 5 else if 6<p.ns.length then 4 else if p.ns.any iH then 4 else if pI p.es.length p.ns then(if sJ p.ns && bP (p.ns.map Nd.nm) then 0 else 6) else 1) else cV p.es
theorem xG{l:List Nd}{k:Nat}(hk:k<l.length):(l.map Nd.nm).take (k+1)=(l.map Nd.nm).take k++[(l[k]?.getD default).nm]:=by
 rw [List.take_add_one,List.getElem?_map,Yk hk]
 simp
theorem zU{α:Type} [Inhabited α] {f:α->Bool}{l:List α}{k:Nat}(hk:k<l.length):(l.take (k+1)).all f=((l.take k).all f && f (l[k]?.getD default)):=by
 rw [List.take_add_one,Yk hk,List.all_append]
 simp
theorem aH1{α:Type} [Inhabited α] {f:α->Bool}{l:List α}{k:Nat}(hk:k<l.length) (hf:f (l[k]?.getD default)=true):l.any f=true:=by
 rw [Yk hk] at hf;exact List.any_eq_true.2 ⟨_,Zg hk,hf⟩
theorem aRs{α:Type} [Inhabited α] {f:α->Bool}{l:List α}(h:∀ j,j<l.length->f (l[j]?.getD default)=false):l.any f=false:=by
 rw [List.any_eq_false];intro a ha;obtain⟨j,hj,rfl⟩:=Zi ha;have:=h j hj;rw [Yk hj] at this
 simpa using this
theorem pU{w:World}{m:Nat}:Below w.heap.size w (w.drewN m):=aY (Yg _ _) m
theorem aG6{w w':World}{g:Nat}{cs:Array Value}{T:TypeId}{v:Value}(h:w.heap[g]?=some (.cells cs T)) (Ab:w.grownBy w' v.ownBlock) (Aa:v.ownBlock≠some g):w'.heap[g]?=some (.cells cs T):=
 (Ab.block g (Yl.1 h).1 (fun e=>Aa e.symm)).trans h
theorem gD{w w':World}{g:Nat}{cs:Array Value}{T:TypeId}(h:w.heap[g]?=some (.cells cs T)) (hb:Below w.heap.size w w') (j:Nat):w'.cell? ⟨g,j,none⟩=cs[j]?:=by
 have Aa:g<w.heap.size:=(Yl.1 h).1;rw [hb.cell (p:=⟨g,j,none⟩) Aa];unfold World.cell?;rw [show w.heap[(⟨g,j,none⟩:Addr).block]?=_ from h];rfl
theorem aMw(p:Pg) (E:Option Addr) (ec:Nat) (N:Option Addr) (nc:Nat) (w:World) (h:cW w p E N) (ht:gI p):
 Calls Tryz.prog 38 #[.agg (aP p E ec N nc)] w fun e w'=>e=.returned (.int .i64 (dO p))/\Below w.heap.size w w':=by
 have HF:=Hd fun w1 hw=>kH w p E ec N nc w1 hw h;have Db:=Hd fun w1 a=>aMo E p.es.length ec p.es w1 a ht.1.ok ht.1.few;have Dj:=Hd fun x A1 c1 A2 c2 A3 c3 A4 c4 w1 a b c=>aPi E p.es.length ec x A1 c1 A2 c2 A3 c3 A4 c4 w1 (by have:=ht.1.1;omega) a b c;have Ed:=aQ.max h.2;have HE:=Hd (show dO p=if cV p.es=0 then(if p.ns.length=0 then 5 else if 6<p.ns.length then 4 else if p.ns.any iH then 4 else if pI p.es.length p.ns then(if sJ p.ns && bP (p.ns.map Nd.nm) then 0 else 6) else 1) else cV p.es from rfl);have Du:=Hd ht.2.2;obtain⟨i0,hi,Dg,Dx,Df⟩:=info_parts oU;unfold aP;unfold pI sJ at HE;generalize dO p=Ee at *
 go_enter Tryz.func38,Tryz.ntmps38
 go_upto_region 1 with(fail)
 generalize Cy:w.alloc _=w1;obtain⟨Cq,hg,Cf,An⟩:=HF.o w1 Cy;have Ax:=Hd Cq;have HC:=Hd An;have Dn:=Hd (Db.o w1 Cf.1);have Dp:=Hd (show aQ 5 oO w1 N p.ns.length p.ns from Cf.2);simp only [aP] at HC;have q0:=HC.o w1 (Yg _ _) 0;simp only [Ya,Yb,Yc] at q0;clear Cy An Cq HF h Cf Db ht;generalize Dd:p.ns=ns at *;generalize Cp:ns.length=n at *;have As:=Hd Cp;generalize p.es.length=ne at *;generalize cV p.es=en at *;clear Cp Dd
 go_wp2_with fail
 refine Dn.o.mono ?_;rintro e w2 ⟨rfl,Aw⟩;have Ci:=Hd (Ax.o.trans (Aw.mono (by omega)));have Ct:=Hd Aw;have q1:=HC.o w2 Aw 1;have q0:=HC.o w2 Aw 0;have Ea:=Aw.size;simp only [Ya,Yb,Yc] at q0 q1;clear Aw
 by_cases Br:en=0
 . subst Br;rw [if_pos rfl] at HE;rcases Nat.eq_zero_or_pos n with Cs | Cs
   . subst Cs;rw [if_pos rfl] at HE
     go_wp2_with fail
     go_ret
     exact⟨cF HE.o.symm,Ci.o⟩
   . rw [if_neg (by omega)] at HE;have Eb:((n:Int)==0)=false:=by rw [Xa];omega
     by_cases Cx:6<n
     . rw [if_pos Cx] at HE
       go_wp2_with fail
       go_ret
       exact⟨cF HE.o.symm,Ci.o⟩
     . rw [if_neg Cx] at HE;have d6:decide ((6:Int)<(n:Int))=false:=Zy (by omega);have Cu:=Hd (World.ownsRow_lit (base:=w2.heap.size) (e:=9) (size:=1) w2 #[] 0 (Yh _) (by decide) rfl);have Cv:=Hd (Ct.o.alloc Ct.o.size (.cells #[] 9))
       go_wp2_with fail
       go_loopw [4,5,6,7] (fun v r o i wr=>∃ k:Nat,k<=n/\i=.int .i64 k/\wr.ownsRow w2.heap.size 9 1 v k (((ns.map Nd.nm).take k).map Value.string)/\r=.bool ((ns.take k).all (gH ne bH bB))/\o=.bool ((ns.take k).all fun n=>bP (bD n.all))/\(∀ j,j<k->iH (ns[j]?.getD default)=false)/\Below w1.heap.size w1 wr/\w2.heap.size<=wr.heap.size) (fun _ _ _ i _=>n-(intOf i).toNat)
       case atStart=>exact⟨0,Yq _,rfl,Cu.o,rfl,rfl,fun j hj=>absurd hj (by omega),Cv.o,by simp⟩
       case round=>
        obtain⟨k,hk,rfl,Bc,rfl,rfl,Da,Ae,Dz⟩:=hrel;have Ar:=Hd Bc;have Cn:=Hd Da;have Co:=Hd Ae;have hz:=Ae.size;have q0:=HC.o wr Ae 0;have q1:=HC.o wr Ae 1;simp only [Ya,Yb,Yc] at q0 q1;clear Da Bc Cu Cv
        by_cases Av:k<n
        . obtain⟨b,Ay,rfl,hb,hc⟩:=aQ.at_ Dp.o (by omega);have Bl:=hc k Av;clear hc;have Bm:=xG (l:=ns) (k:=k) (by rw [As.o];exact Av);have Cg:=zU (f:=gH ne bH bB) (l:=ns) (k:=k) (by rw [As.o];exact Av);have Bx:=zU (f:=fun n=>bP (bD n.all)) (l:=ns) (k:=k) (by rw [As.o];exact Av);have Bd:=Du.o k Av;have Bb:=Hd fun hf=>aH1 (l:=ns) (f:=iH) (k:=k) (by rw [As.o];exact Av) hf;have HS:=Hd fun(hf:iH (ns[k]?.getD default)=false)=>dK (P:=fun j=>iH (ns[j]?.getD default)=false) Cn.o hf;generalize ns[k]?.getD default=x at Bl Bm Cg Bx Bd Bb HS;have Bf:=Hd Bm;have Bi:=Hd Cg;have Bk:=Hd Bx;have Cd:=Hd Bd;have Dr:=Bd.len
          have Ad:=Hd (show iH x=(decide ((6:Int)<(x.ins.length:Int)) || decide ((6:Int)<(x.outs.length:Int)) || decide ((12:Int)<(x.vars.length:Int)) || decide ((18:Int)<(x.eqs.length:Int))) by
           have hd:∀ a b:Nat,decide ((a:Int)<(b:Int))=decide (a<b):=fun a b=>by simp
           have h6:=hd 6;have Dk:=hd 12;have Ds:=hd 18;simp only [iH] at *;rw [<- h6,<- h6,<- Dk,<- Ds];rfl)
          clear Bm Cg Bx Bd;obtain⟨A1,c1,A2,c2,A3,c3,A4,c4,Cr,e0,e1,e2,e3,e4⟩:=Bl.five;have Dl:=(Ae.cell (p:=⟨b,Ay+k*5,none⟩) hb).trans e0;have Dq:=(Ae.cell (p:=⟨b,Ay+k*5+1,none⟩) hb).trans e1;have Dm:=(Ae.cell (p:=⟨b,Ay+k*5+2,none⟩) hb).trans e2;have Dt:=(Ae.cell (p:=⟨b,Ay+k*5+3,none⟩) hb).trans e3;have De:=(Ae.cell (p:=⟨b,Ay+k*5+4,none⟩) hb).trans e4;have Cz:=Hd fun w' (hb:Below w1.heap.size w1 w')=>Cr.below hb;have Bo:=Hd fun w' hb=>Dj.o x A1 c1 A2 c2 A3 c3 A4 c4 w' (Cz.o w' hb) Cd.o.ok (by have:=Cd.o.len;omega);have Cc:=Hd fun w' hb=>rT x A1 c1 A2 c2 A3 c3 A4 c4 w' (Cz.o w' hb) (by have:=Cd.o.len;omega);have Cw:=Hd fun zc w4 (hw:(wr.alloc (.cells zc 53)).setRow wr.heap.size (bL x A1 c1 A2 c2 A3 c3 A4 c4)=w4)=>(show w4.heap[wr.heap.size]?=some (.cells (bL x A1 c1 A2 c2 A3 c3 A4 c4) 53)/\Below wr.heap.size wr w4 from⟨by rw [<- hw];exact Xc _ _ _ _ _ _ (Zw _ _),(wQ hw).1⟩);unfold bL at Bo Cc;clear e0 e1 e2 e3 e4 Cr Bl Ae
          go_upto_region 13 with(refine Zu rfl _ _ _ rfl wr.heap.size _ rfl rfl _ _ (Zw _ _) aFb rfl (by simp [Value.oneCell']) ?_)
          generalize Cl:World.setRow _ _ _=w4;obtain⟨Aj,Bh⟩:=Cw.o _ w4 Cl;have Di:=Hd Aj;have Ap:=Hd (Co.o.trans (Bh.mono hz));have Ak:=Hd (lS Ar.o Bh);have Ec:=Bh.size;have Dw:wr.heap.size<w4.heap.size:=(Yl.1 Aj).1;have r0:=gD Aj (Yg _ _) 0;have r1:=gD Aj (Yg _ _) 1;have r2:=gD Aj (Yg _ _) 2;have r3:=gD Aj (Yg _ _) 3;have r4:=gD Aj (Yg _ _) 4;simp only [bL,List.getElem?_toArray,Yz,Zb] at r0 r1 r2 r3 r4;have Dh:=Hd (show u4.ownBlock≠some wr.heap.size from fun e=>by have:=(Ar.o.lt _ e).2;omega);clear Cl Aj Bh Cw Dl Dq Dm Dt De q0 q1;generalize wr.heap.size=gb at *
          cases m1:decide ((6:Int)<(x.ins.length:Int)) with
          | true=>
           rw [m1] at Ad
           go_wp2_with fail
           go_ret
           exact⟨cF (by rw [HE.o,Bb.o (by rw [Ad.o];rfl)];rfl),Ax.o.trans (Ap.o.mono (by omega))⟩
          | false=>
           rw [m1] at Ad
           cases m2:decide ((6:Int)<(x.outs.length:Int)) with
           | true=>
            rw [m2] at Ad
            go_wp2_with fail
            go_ret
            exact⟨cF (by rw [HE.o,Bb.o (by rw [Ad.o];rfl)];rfl),Ax.o.trans (Ap.o.mono (by omega))⟩
           | false=>
            rw [m2] at Ad
            cases m3:decide ((12:Int)<(x.vars.length:Int)) with
            | true=>
             rw [m3] at Ad
             go_wp2_with fail
             go_ret
             exact⟨cF (by rw [HE.o,Bb.o (by rw [Ad.o];rfl)];rfl),Ax.o.trans (Ap.o.mono (by omega))⟩
            | false=>
             rw [m3] at Ad
             cases m4:decide ((18:Int)<(x.eqs.length:Int)) with
             | true=>
              rw [m4] at Ad
              go_wp2_with fail
              go_ret
              exact⟨cF (by rw [HE.o,Bb.o (by rw [Ad.o];rfl)];rfl),Ax.o.trans (Ap.o.mono (by omega))⟩
             | false=>
              rw [m4] at Ad;have Bj:=Hd (HS.o (by rw [Ad.o];rfl))
              go_upto_region 16 with(at_builtin;refine wpList_append_own_at _ rfl _ _ 32 rfl w2.heap.size 9 i0 (.string ByteArray.empty) 1 16 Tryz.underlying32 hi Dg Dx Df rfl (by decide) _ _ _ rfl (Ak.o.alloc _) ⟨w4.heap.size,0,none⟩ 1 1 [.string x.nm] rfl rfl (cell_one_new _ _ _) (lQ [x.nm]) (by unfold maxLen;omega) (by omega) (by simp;omega) ?_;intro v' w5 Al Am Ck Bw;have Be:=Hd Al;have Bp:=Hd Am;clear Al Am Ck Bw)
              have Af:=Hd ((Ap.o.alloc Ap.o.size (.cells #[.string x.nm] 9)).grown Bp.o (by have:=Ap.o.size;simp;omega) (fun j hj=>by have:=(Ak.o.lt j hj).1;omega));have Ao:=aG6 ((Below.heap_alloc w4 (.cells #[.string x.nm] 9) gb Dw).trans Di.o) Bp.o Dh.o;have Ag:=Hd Ao;have Dy:=Af.o.size;have Ca:=Bp.o.size
              simp at Ca
              have s0:=gD Ao (Yg _ _) 0;have s1:=gD Ao (Yg _ _) 1;have s2:=gD Ao (Yg _ _) 2;have s3:=gD Ao (Yg _ _) 3;have s4:=gD Ao (Yg _ _) 4;have s5:=HC.o w5 Af.o 0;simp only [bL,List.getElem?_toArray,Yz,Zb] at s0 s1 s2 s3 s4 s5;clear r0 r1 r2 r3 r4 Ao
              cases hr:(ns.take k).all (gH ne bH bB) with
              | false=>
               cases ho:(ns.take k).all (fun n=>bP (bD n.all)) with
               | false=>
                have Ab:=Hd Be.o;have Aa:=Hd Af.o
                go_wp2_with fail
                go_roundw
                case rel=>
                 refine⟨k+1,by omega,by go_num,?_,?_,?_,Bj.o,Aa.o,by omega⟩
                 . rw [Bf.o,Zp];exact Ab.o
                 . rw [Bi.o,hr];rfl
                 . rw [Bk.o,ho];rfl
                case measure=>simp [intOf];omega
               | true=>
                have Ab:=Hd Be.o;have Aa:=Hd Af.o
                go_wp2_with fail
                have Aq:=Hd (Cc.o _ Aa.o);refine Aq.o.mono ?_;rintro e w7 ⟨A9,c9,rfl,Ba,Ai⟩;have Aa:=Hd (Aa.o.trans (Ai.mono Aa.o.size));have Ab:=Hd (lS Ab.o Ai);have Bq:=Ai.size;have Bz:=Hd (aCb A9 x.all.length c9 x.all _ Ba (by omega));clear Ba Ai s0 s1 s2 s3 s4 s5
                go_wp2_with fail
                refine Bz.o.mono ?_;rintro e w8 ⟨Cb,Bn,rfl,Az,Ah⟩;have Aa:=Hd (Aa.o.trans (Ah.mono Aa.o.size));have Ab:=Hd (lS Ab.o Ah);have Bv:=Ah.size;have Ce:=Hd (mU Cb x.all.length Bn (bD x.all) _ Az (by omega));clear Az Ah
                go_wp2_with fail
                refine Ce.o.mono ?_;rintro e w9 ⟨rfl,md,rfl⟩;have Bt:w8.heap.size<=(w8.drewN md).heap.size:=Yh _;have Aa:=Hd (Aa.o.trans ((pU (m:=md)).mono Aa.o.size));have Ab:=Hd (lS Ab.o (pU (m:=md)))
                go_wp2_with fail
                go_roundw
                case rel=>
                 refine⟨k+1,by omega,by go_num,?_,?_,?_,Bj.o,Aa.o,by omega⟩
                 . rw [Bf.o,Zp];exact Ab.o
                 . rw [Bi.o,hr];rfl
                 . rw [Bk.o,ho];rfl
                case measure=>simp [intOf];omega
              | true=>
               cases ho:(ns.take k).all (fun n=>bP (bD n.all)) with
               | false=>
                have Au:=Hd (Bo.o w5 Af.o)
                go_wp2_with fail
                refine Au.o.mono ?_;rintro e w6 ⟨rfl,Ac⟩;have Aa:=Hd (Af.o.trans (Ac.mono Af.o.size));have Ab:=Hd (lS Be.o Ac);have Ch:=Ac.size;have t0:=gD Ag.o Ac 0;have t1:=gD Ag.o Ac 1;have t2:=gD Ag.o Ac 2;have t3:=gD Ag.o Ac 3;have t4:=gD Ag.o Ac 4;simp only [bL,List.getElem?_toArray,Yz,Zb] at t0 t1 t2 t3 t4;clear Ac s0 s1 s2 s3 s4 s5
                go_wp2_with fail
                go_roundw
                case rel=>
                 refine⟨k+1,by omega,by go_num,?_,?_,?_,Bj.o,Aa.o,by omega⟩
                 . rw [Bf.o,Zp];exact Ab.o
                 . rw [Bi.o,hr];rfl
                 . rw [Bk.o,ho];rfl
                case measure=>simp [intOf];omega
               | true=>
                have Au:=Hd (Bo.o w5 Af.o)
                go_wp2_with fail
                refine Au.o.mono ?_;rintro e w6 ⟨rfl,Ac⟩;have Aa:=Hd (Af.o.trans (Ac.mono Af.o.size));have Ab:=Hd (lS Be.o Ac);have Ch:=Ac.size;have t0:=gD Ag.o Ac 0;have t1:=gD Ag.o Ac 1;have t2:=gD Ag.o Ac 2;have t3:=gD Ag.o Ac 3;have t4:=gD Ag.o Ac 4;simp only [bL,List.getElem?_toArray,Yz,Zb] at t0 t1 t2 t3 t4;clear Ac s0 s1 s2 s3 s4 s5
                go_wp2_with fail
                have Aq:=Hd (Cc.o _ Aa.o);refine Aq.o.mono ?_;rintro e w7 ⟨A9,c9,rfl,Ba,Ai⟩;have Aa:=Hd (Aa.o.trans (Ai.mono Aa.o.size));have Ab:=Hd (lS Ab.o Ai);have Bq:=Ai.size;have Bz:=Hd (aCb A9 x.all.length c9 x.all _ Ba (by omega));clear Ba Ai t0 t1 t2 t3 t4
                go_wp2_with fail
                refine Bz.o.mono ?_;rintro e w8 ⟨Cb,Bn,rfl,Az,Ah⟩;have Aa:=Hd (Aa.o.trans (Ah.mono Aa.o.size));have Ab:=Hd (lS Ab.o Ah);have Bv:=Ah.size;have Ce:=Hd (mU Cb x.all.length Bn (bD x.all) _ Az (by omega));clear Az Ah
                go_wp2_with fail
                refine Ce.o.mono ?_;rintro e w9 ⟨rfl,md,rfl⟩;have Bt:w8.heap.size<=(w8.drewN md).heap.size:=Yh _;have Aa:=Hd (Aa.o.trans ((pU (m:=md)).mono Aa.o.size));have Ab:=Hd (lS Ab.o (pU (m:=md)))
                go_wp2_with fail
                go_roundw
                case rel=>
                 refine⟨k+1,by omega,by go_num,?_,?_,?_,Bj.o,Aa.o,by omega⟩
                 . rw [Bf.o,Zp];exact Ab.o
                 . rw [Bi.o,hr];rfl
                 . rw [Bk.o,ho];rfl
                case measure=>simp [intOf];omega
        . obtain rfl:k=n:=by omega
          have Cj:∀ f:Nd->Bool,(ns.take k).all f=ns.all f:=fun f=>by rw [Yx (by rw [As.o];exact Yh _)]
          have Dv:=Hd (aRs (l:=ns) (f:=iH) fun j hj=>Cn.o j (by rw [<- As.o];exact hj));rw [Dv.o,if_neg (by simp)] at HE;have Bu:=Ar.o;rw [Yx (by rw [List.length_map,As.o];exact Yh _)] at Bu;obtain⟨A9,c9,rfl,Cm,_⟩:=aN.of_own Bu (by omega);have Bg:=Hd (mU A9 k c9 (ns.map Nd.nm) wr Cm (by omega));have Aa:=Hd (Ax.o.trans (Co.o.mono (by omega)));rw [Cj,Cj];clear Cj Bu Cm Ae
          cases hr:ns.all (gH ne bH bB) with
          | false=>
           rw [hr] at HE
           go_wp2_with fail
           go_ret
           exact⟨cF (by rw [HE.o];rfl),Aa.o⟩
          | true=>
           rw [hr,if_pos rfl] at HE
           cases ho:ns.all (fun n=>bP (bD n.all)) with
           | false=>
            rw [ho] at HE
            go_wp2_with fail
            go_ret
            exact⟨cF (by rw [HE.o];rfl),Aa.o⟩
           | true=>
            rw [ho,Bool.true_and] at HE
            cases hx:bP (ns.map Nd.nm) with
            | false=>
             rw [hx] at HE Bg
             go_wp2_with fail
             refine Bg.o.mono ?_;rintro e w9 ⟨rfl,md,rfl⟩;have Aa:=Hd (Aa.o.trans ((pU (m:=md)).mono Aa.o.size))
             go_wp2_with fail
             go_ret
             exact⟨cF (by rw [HE.o];rfl),Aa.o⟩
            | true=>
             rw [hx,if_pos rfl] at HE;rw [hx] at Bg
             go_wp2_with fail
             refine Bg.o.mono ?_;rintro e w9 ⟨rfl,md,rfl⟩;have Aa:=Hd (Aa.o.trans ((pU (m:=md)).mono Aa.o.size))
             go_wp2_with fail
             go_ret
             exact⟨cF HE.o.symm,Aa.o⟩
 . rw [if_neg Br] at HE;have de:(en==0)=false:=by rw [Xa];exact Br
   go_wp2_with fail
   go_ret
   exact⟨cF HE.o.symm,Ci.o⟩
end
section
def eH{α:Type} [DecidableEq α] (z:α) (f:Nat->α):Nat->α
 | 0=>z
 | n+1=>if eH z f n=z then f n else eH z f n
theorem lX{α:Type} [DecidableEq α] {z:α}{f:Nat->α}:∀ {n:Nat},(∀ j,j<n->f j=z)->eH z f n=z
 | 0,_=>rfl
 | n+1,h=>by rw [eH,if_pos (lX fun j hj=>h j (by omega)),h n (by omega)]
theorem mP{α:Type} [DecidableEq α] {z:α}{f:Nat->α}{k:Nat}:∀ {n:Nat},k<n->(∀ j,j<k->f j=z)->f k≠z->eH z f n=f k
 | 0,h,_,_=>absurd h (by omega)
 | n+1,hk,hn,hf=>by
  rw [eH]
  by_cases h:k<n
  . have h1:=mP h hn hf;rw [h1,if_neg hf]
  . obtain rfl:k=n:=by omega
    rw [if_pos (lX hn)]
theorem sX{α:Type} [DecidableEq α] {z:α}{f:Nat->α}:∀ {n:Nat},eH z f n=z->∀ j,j<n->f j=z
 | 0,_,j,hj=>absurd hj (by omega)
 | n+1,h,j,hj=>by
  rw [eH] at h
  by_cases h1:eH z f n=z
  . rw [if_pos h1] at h
    by_cases h2:j<n
    . exact sX h1 j h2
    . obtain rfl:j=n:=by omega
      exact h
  . rw [if_neg h1] at h;exact absurd h h1
def cU(es:List En) (s:ByteArray):Option (Int × Int × Int):=
 if(s.toList==[116,114,117,101])=true then some (2,0,1)
 else if(s.toList==[102,97,108,115,101])=true then some (2,0,0)
 else(fN es s).map fun p=>(3,(p.1:Int),(p.2.1:Int))
def bQ(s:ByteArray) (t:ByteArray):Bool:=t.data.toList==s.data.toList
def fS(n:Nd) (s:ByteArray):Bool:=(aW n s).isSome
def cM(es:List En) (s:ByteArray):Bool:=(cU es s).isSome
def aA(p:Pg) (i:Nat):Nd:=p.ns[i]?.getD default
def kP(p:Pg) (i:Nat) (e:Ex):Bool:=
 if((e.k==3 || e.k==11 || e.k==12) && !fS (aA p i) e.s)=true then false
 else if e.arms.all (cM p.es)=false then false
 else if(e.k==4)=true then cM p.es e.s
 else if(e.k==13)=true then decide (0<=cQ p e.s) && decide (cQ p e.s<(i:Int))
 else !(e.k==17)
def jY(s:ByteArray) (l:List ByteArray):Nat:=(l.filter (bQ s)).length
def mH(n:Nd) (s:ByteArray) (i j:Nat):Nat:=jY s ((n.eqs.take i).flatMap Qn.ns++((n.eqs[i]?.getD default).ns.take j))
def eX(n:Nd) (s:ByteArray) (i:Nat):Nat:=jY s ((n.eqs.take i).flatMap Qn.ns)
def lC(n:Nd) (s:ByteArray):Bool:=n.ins.any fun d=>bQ s d.nm
def jU(n:Nd) (i:Nat) (ns:List ByteArray) (k:Nat):Int:=
 if fS n (ns[k]?.getD ByteArray.empty)=false then 5
 else if(lC n (ns[k]?.getD ByteArray.empty) || decide (0<eX n (ns[k]?.getD ByteArray.empty) i))=true then 6
 else if(ns.take k).any (bQ (ns[k]?.getD ByteArray.empty))=true then 6 else 0
def eB(p:Pg) (i j:Nat):Int:=
 if eH (0:Int) (jU (aA p i) j ((aA p i).eqs[j]?.getD default).ns) ((aA p i).eqs[j]?.getD default).ns.length=0
 then(if(bI ((aA p i).eqs[j]?.getD default).x).all (kP p i)=true then 0 else 5)
 else eH (0:Int) (jU (aA p i) j ((aA p i).eqs[j]?.getD default).ns) ((aA p i).eqs[j]?.getD default).ns.length
def jP(p:Pg) (n:Nd) (d:Dc):Bool:=(d.on.toList==[]) || (fS n d.on && cM p.es d.ct)
abbrev Fl:=Int × Int × Int
def gC(p:Pg) (i j:Nat):Fl:=if eB p i j=0 then(0,0,0) else((i:Int),(j:Int),eB p i j)
def dU(p:Pg) (i:Nat):Fl:=
 if(aA p i).all.all (jP p (aA p i))=false then((i:Int),-1,5)
 else if eH ((0,0,0):Fl) (gC p i) (aA p i).eqs.length=(0,0,0)
 then(if((aA p i).all.drop (aA p i).ins.length).all (fun d=>decide (0<eX (aA p i) d.nm (aA p i).eqs.length))=true then(0,0,0) else((i:Int),-1,5))
 else eH ((0,0,0):Fl) (gC p i) (aA p i).eqs.length
def dE(p:Pg):Fl:=if dO p=0 then eH ((0,0,0):Fl) (dU p) p.ns.length else(0,-1,dO p)
end
section
open Go.RowKit Go.Sort
def aC(a b c:Int):Array Value:=#[.int .i64 a,.int .i64 b,.int .i64 c]
def F3(T:TypeId) (W:World) (g:Nat) (a b c:Int):Prop:=W.heap[g]?=some (Obj.cells (aC a b c) T)
section
variable {T:TypeId}{W W':World}{g:Nat}{a b c:Int}
theorem F3.lt(h:F3 T W g a b c):g<W.heap.size:=(Yl.1 h).1
theorem F3.below(h:F3 T W g a b c) (hb:Below W.heap.size W W'):F3 T W' g a b c:=(hb.block g h.lt).trans h
theorem F3.set(h:F3 T W g a b c) (x y z:Int):F3 T (W.setRow g (aC x y z)) g x y z:=Xc _ _ _ _ _ _ h
theorem F3.cell(h:F3 T W g a b c) (j:Nat):W.cell? ⟨g,j,none⟩=(aC a b c)[j]?:=by
 have:=cell_setRow_same W g j _ (aC a b c) _ _ h;rwa [setRow_self W g _ _ _ h] at this
theorem F3.new(T:TypeId) (W:World) (a b c:Int):F3 T (W.alloc (.cells (aC a b c) T)) W.heap.size a b c:=Zw _ _
end
theorem eQ:(Tryz.prog.info? 30).map (·.size)=some 3:=by kernel_rfl
theorem bM:(Tryz.prog.info? 38).map (·.size)=some 3:=by kernel_rfl
theorem eZ{fn:Func}{p:Tmp}(h:fn.results=#[.cell p 30]) (tmps:Array Value) (w:World) (i:Nat) (a b c:Int)
 (hp:tmps.getD p undef=.pointer (some ⟨i,0,none⟩)) (hg:F3 30 w i a b c):(results fn tmps).run Tryz.prog w=.ok (.agg (aC a b c)) w:=
 results_cell_row h tmps w i _ _ _ _ hp hg Tryz.underlying30 rfl eQ
theorem aGg{fn:Func}{p u v:Tmp}{ty:TypeId}(h:fn.results=#[.cell p ty,.tmp u,.tmp v]) (tmps:Array Value) (P:Program) (w:World):
 (results fn tmps).run P w =
  ((asAddr (tmps.getD p undef)).run P w).andThen fun a w₁=>((loadVar ty a).run P w₁).andThen fun x w₂=>.ok (.tuple #[x,tmps.getD u undef,tmps.getD v undef]) w₂:=by
 simp only [results,h]
 simp [Sem.run_bind,Result.andThen]
theorem kJ{fn:Func}{p u v:Tmp}(h:fn.results=#[.cell p 38,.tmp u,.tmp v]) (tmps:Array Value) (w:World) (g:Nat) (a b c:Int)
 (hp:tmps.getD p undef=.pointer (some ⟨g,0,none⟩)) (hg:F3 38 w g a b c):(results fn tmps).run Tryz.prog w=.ok (.tuple #[.agg (aC a b c),tmps.getD u undef,tmps.getD v undef]) w:=by
 rw [aGg h,hp];have hl:=run_loadVar_row (P:=Tryz.prog) w g 38 38 _ _ _ hg Tryz.underlying38 rfl bM
 simp [asAddr,Result.andThen,hl]
theorem jA{w w0:World}{T:TypeId}(h:w.alloc (.cells #[.int .i64 0,.int .i64 0,.int .i64 0] T)=w0):Below w.heap.size w w0/\F3 T w0 w.heap.size 0 0 0/\w0.heap.size=w.heap.size+1:=by
 subst h;exact⟨(Yg _ _).alloc (Yh _) _,Zw _ _,by simp⟩
def nI(o:Option (Int × Int × Int)):Value:=.tuple #[.agg (aC ((o.map (·.1)).getD 0) ((o.map (·.2.1)).getD 0) 0),.int .i64 ((o.map (·.2.2)).getD 0),.bool o.isSome]
theorem mQ{w w1:World}{v:Array Value}(h:Below w.heap.size w w1):Below w.heap.size w (w1.setRow w.heap.size v):=Xb h (Yh _) _
theorem xH(a b c:Int) (w:World):Calls Tryz.prog 30 #[.int .i64 a,.int .i64 b,.int .i64 c] w fun e w'=>e=.returned (.agg (aC a b c))/\Below w.heap.size w w':=by
 go_enter Tryz.func30,Tryz.ntmps30
 go_upto_region 1 with(fail)
 generalize Aa:w.alloc _=w0;obtain⟨Ab,hR,Ad⟩:=jA Aa;have Ac:=Hd Ab;have HR:=Hd hR;clear Ab hR Aa
 go_wp2_with (refine Zu rfl _ _ _ rfl (w.heap.size) _ rfl rfl _ _ HR.o eQ rfl (by simp [Value.oneCell']) ?_)
 exact Zt (eZ (p:=6) rfl _ _ w.heap.size a b c rfl (HR.o.set a b c)) rfl ⟨rfl,mQ Ac.o⟩
theorem tX(A:Option Addr) (n c:Nat) (es:List En) (s:ByteArray) (w:World) (hE:bV w A n es):
 Calls Tryz.prog 29 #[.slice A n c,.string s] w fun e w'=>e=.returned (nI (cU es s))/\Below w.heap.size w w':=by
 have HC:=Hd fun w1 (hb:Below w.heap.size w w1)=>aO3 A n c es s w1 (hE.below hb);have HA:=Hd (show cU es s=if(s.toList==[116,114,117,101])=true then some (2,0,1) else if(s.toList==[102,97,108,115,101])=true then some (2,0,0) else(fN es s).map fun p=>(3,(p.1:Int),(p.2.1:Int)) from rfl);generalize cU es s=ar at *;clear hE
 cases h1:(s.toList==[116,114,117,101]) with
 | true=>
  have HE:=Hd (show ar=some (2,0,1) by rw [HA.o,if_pos h1]);rw [HE.o]
  go_enter Tryz.func29,Tryz.ntmps29
  go_upto_region 1 with(fail)
  generalize Aa:w.alloc _=w0;obtain⟨Ab,hR,Af⟩:=jA Aa;have Ac:=Hd Ab;have HR:=Hd hR;clear Ab hR Aa
  go_wp2_with (refine Zu rfl _ _ _ rfl (w.heap.size) _ rfl rfl _ _ HR.o bM rfl (by simp [Value.oneCell']) ?_)
  exact Zt (kJ (p:=4) (u:=5) (v:=6) rfl _ _ w.heap.size 2 0 0 rfl (HR.o.set 2 0 0)) rfl ⟨rfl,mQ Ac.o⟩
 | false=>
  cases h2:(s.toList==[102,97,108,115,101]) with
  | true=>
   have HE:=Hd (show ar=some (2,0,0) by rw [HA.o,if_neg (by rw [h1];simp),if_pos h2]);rw [HE.o]
   go_enter Tryz.func29,Tryz.ntmps29
   go_upto_region 1 with(fail)
   generalize Aa:w.alloc _=w0;obtain⟨Ab,hR,Af⟩:=jA Aa;have Ac:=Hd Ab;have HR:=Hd hR;clear Ab hR Aa
   go_wp2_with (refine Zu rfl _ _ _ rfl (w.heap.size) _ rfl rfl _ _ HR.o bM rfl (by simp [Value.oneCell']) ?_)
   exact Zt (kJ (p:=4) (u:=5) (v:=6) rfl _ _ w.heap.size 2 0 0 rfl (HR.o.set 2 0 0)) rfl ⟨rfl,mQ Ac.o⟩
  | false=>
   have HE:=Hd (show ar=(fN es s).map fun p=>(3,(p.1:Int),(p.2.1:Int)) by rw [HA.o,if_neg (by rw [h1];simp),if_neg (by rw [h2];simp)]);unfold jT at HC;rw [HE.o];clear HA HE
   cases hf:fN es s with
   | none=>
    rw [hf] at HC;simp only [Option.map_none,Option.getD_none,Option.isSome_none] at HC
    go_enter Tryz.func29,Tryz.ntmps29
    go_upto_region 1 with(fail)
    generalize Aa:w.alloc _=w0;obtain⟨Ab,hR,Af⟩:=jA Aa;have Ac:=Hd Ab;have HR:=Hd hR;clear Ab hR Aa
    go_wp2_with fail
    refine(HC.o _ Ac.o).mono ?_;rintro e w1 ⟨rfl,Ad⟩;have Ae:=Hd (HR.o.below Ad);have Ag:=Hd (Ac.o.trans (Ad.mono Ac.o.size));clear Ad
    go_wp2_with (refine Zu rfl _ _ _ rfl (w.heap.size) _ rfl rfl _ _ Ae.o bM rfl (by simp [Value.oneCell']) ?_)
    exact Zt (kJ (p:=4) (u:=5) (v:=6) rfl _ _ w.heap.size 0 0 0 rfl (Ae.o.set 0 0 0)) rfl ⟨rfl,mQ Ag.o⟩
   | some q=>
    rw [hf] at HC;simp only [Option.map_some,Yt,Option.isSome_some] at HC;rw [show(some q).map (fun p:Pl=>((3:Int),(p.1:Int),(p.2.1:Int)))=some (3,(q.1:Int),(q.2.1:Int)) from rfl];generalize q.1=qa at *;generalize q.2.1=qb at *
    go_enter Tryz.func29,Tryz.ntmps29
    go_upto_region 1 with(fail)
    generalize Aa:w.alloc _=w0;obtain⟨Ab,hR,Af⟩:=jA Aa;have Ac:=Hd Ab;have HR:=Hd hR;clear Ab hR Aa
    go_wp2_with fail
    refine(HC.o _ Ac.o).mono ?_;rintro e w1 ⟨rfl,Ad⟩;have Ae:=Hd (HR.o.below Ad);have Ag:=Hd (Ac.o.trans (Ad.mono Ac.o.size));clear Ad
    go_wp2_with (refine Zu rfl _ _ _ rfl (w.heap.size) _ rfl rfl _ _ Ae.o bM rfl (by simp [Value.oneCell']) ?_)
    exact Zt (kJ (p:=4) (u:=5) (v:=6) rfl _ _ w.heap.size 3 qa 0 rfl (Ae.o.set 3 qa 0)) rfl ⟨rfl,mQ Ag.o⟩
end
section
open Go.RowKit Go.Sort
theorem cR{a b:Bool}(h:a=b):Ending.returned (.bool a)=.returned (.bool b):=by rw [h]
theorem wR{w w1 w2:World}{o:Obj}(h:Below w.heap.size w w1) (e:w1.alloc o=w2):Below w.heap.size w w2:=by
 subst e;exact h.alloc h.size _
theorem yB(x:Nd) (A1:Option Addr) (c1:Nat) (A2:Option Addr) (c2:Nat) (A3:Option Addr) (c3:Nat) (A4:Option Addr) (c4:Nat) (s:ByteArray) (w:World) (h:cJ w x A1 A2 A3 A4) (hn:x.all.length<=1000):
 Calls Tryz.prog 71 #[.agg (bL x A1 c1 A2 c2 A3 c3 A4 c4),.string s] w fun e w'=>e=.returned (.bool (fS x s))/\Below w.heap.size w w':=by
 have HF:=Hd fun w1 hw=>iB w x A1 c1 A2 c2 A3 c3 A4 c4 w1 hw h;have HC:=Hd fun w1 (a:cJ w1 x A1 A2 A3 A4)=>oY x A1 c1 A2 c2 A3 c3 A4 c4 s w1 a hn;have HV:=Hd (show(aW x s).isSome=fS x s from rfl);clear h hn;unfold mB nG at HC;unfold bC at HC;generalize (aW x s).isSome=ok at *;generalize (aW x s).getD default=d at *;unfold bL at HF HC ⊢
 go_enter Tryz.func71,Tryz.ntmps71
 go_upto_region 1 with(fail)
 generalize Ad:w.alloc _=w1;obtain⟨Ac,hg,Ae,Aa⟩:=HF.o w1 Ad;have Af:=Hd Ac;obtain⟨q0,q1,q2,q3,q4,-⟩:=Sx (Aa w1 (Yg _ _));simp only [Ya,Yb,Yc] at q0 q1 q2 q3 q4;have HD:=Hd (HC.o w1 Ae);clear Ad Aa Ac HF HC Ae hg
 go_wp2_with fail
 refine HD.o.mono ?_;rintro e w2 ⟨rfl,Ab⟩;have Ag:=Hd (Af.o.trans (Ab.mono Af.o.size));clear Ab q0 q1 q2 q3 q4 HD
 go_wp2_with fail
 go_ret
 exact⟨cR HV.o,wR Ag.o rfl⟩
theorem aCd(p:Pg) (E:Option Addr) (ec:Nat) (N:Option Addr) (nc:Nat) (s:ByteArray) (w:World) (h:cW w p E N):
 Calls Tryz.prog 72 #[.agg (aP p E ec N nc),.string s] w fun e w'=>e=.returned (.bool (cM p.es s))/\Below w.heap.size w w':=by
 have HF:=Hd fun w1 hw=>kH w p E ec N nc w1 hw h;have HC:=Hd fun w1 (a:bV w1 E p.es.length p.es)=>tX E p.es.length ec p.es s w1 a;have HV:=Hd (show(cU p.es s).isSome=cM p.es s from rfl);clear h;unfold nI aC at HC;generalize (cU p.es s).isSome=ok at *;generalize ((cU p.es s).map (·.1)).getD 0=r1 at *;generalize ((cU p.es s).map (·.2.1)).getD 0=r2 at *;generalize ((cU p.es s).map (·.2.2)).getD 0=r3 at *;unfold aP at HF ⊢
 go_enter Tryz.func72,Tryz.ntmps72
 go_upto_region 1 with(fail)
 generalize Ad:w.alloc _=w1;obtain⟨Ac,hg,Ae,Aa⟩:=HF.o w1 Ad;have Af:=Hd Ac;have q0:=Aa w1 (Yg _ _) 0;simp only [Ya,Yb,Yc] at q0;have HD:=Hd (HC.o w1 Ae.1);clear Ad Aa Ac HF HC Ae hg
 go_wp2_with fail
 refine HD.o.mono ?_;rintro e w2 ⟨rfl,Ab⟩;have Ag:=Hd (Af.o.trans (Ab.mono Af.o.size));clear Ab q0 HD
 go_wp2_with fail
 go_ret
 exact⟨cR HV.o,wR Ag.o rfl⟩
theorem aJz{n:Nd}{s:ByteArray}{k:Nat}(hk:k<n.ins.length) (h:((n.ins[k]?.getD default).nm.toList==s.toList)=true):lC n s=true:=by
 unfold lC;rw [Yk hk] at h;refine List.any_eq_true.2 ⟨_,Zg hk,?_⟩;rw [Zc,Zc] at h;exact h
theorem aMx{n:Nd}{s:ByteArray}(h:∀ j,j<n.ins.length->((n.ins[j]?.getD default).nm.toList==s.toList)=false):lC n s=false:=by
 unfold lC;rw [List.any_eq_false];intro d hd;obtain⟨j,hj,rfl⟩:=Zi hd;have:=h j hj;rw [Yk hj,Zc,Zc] at this
 simpa [bQ] using this
theorem aH2(x:Nd) (A1:Option Addr) (c1:Nat) (A2:Option Addr) (c2:Nat) (A3:Option Addr) (c3:Nat) (A4:Option Addr) (c4:Nat) (s:ByteArray) (w:World) (h:cJ w x A1 A2 A3 A4):
 Calls Tryz.prog 109 #[.agg (bL x A1 c1 A2 c2 A3 c3 A4 c4),.string s] w fun e w'=>e=.returned (.bool (lC x s))/\Below w.heap.size w w':=by
 have HF:=Hd fun w1 hw=>iB w x A1 c1 A2 c2 A3 c3 A4 c4 w1 hw h;have HH:=Hd fun k hk h=>aJz (n:=x) (s:=s) (k:=k) hk h;have HN:=Hd fun h=>aMx (n:=x) (s:=s) h;have As:=aQ.max h.1;clear h;generalize lC x s=Ap at *;unfold bL at HF ⊢;generalize Ar:x.ins.length=n1 at *
 go_enter Tryz.func109,Tryz.ntmps109
 go_upto_region 1 with(fail)
 generalize Ag:w.alloc _=w1;obtain⟨Af,hg,Ah,Aa⟩:=HF.o w1 Ag;have Ac:=Hd Af;have HC:=Hd Aa;have HR:=Hd Ah.1;clear Ag Aa Af HF Ah hg
 go_wp2_with fail
 go_loopw [5] (fun i wr=>∃ k:Nat,k<=n1/\i=.int .i64 k/\(∀ j,j<k->((x.ins[j]?.getD default).nm.toList==s.toList)=false)/\Below w1.heap.size w1 wr) (fun i _=>n1-(intOf i).toNat)
 case atStart=>exact⟨0,Yq _,rfl,fun j hj=>absurd hj (by omega),Yg _ _⟩
 case round=>
  obtain⟨k,hk,rfl,Ad,Ab⟩:=hrel;have Al:=Hd Ad;have Ae:=Hd Ab;have q1:=HC.o wr Ab 1;simp only [Ya,Yb,Yc] at q1
  by_cases Aq:k<n1
  . obtain⟨b,Ao,rfl,hb,Ai⟩:=aQ.at_ (HR.o.below Ab) (by omega);obtain⟨d0,-⟩:=(Ai k (by omega)).six;have Am:=Hd (HH.o k (by omega));have Ak:=Hd fun hf=>dK (P:=fun j=>((x.ins[j]?.getD default).nm.toList==s.toList)=false) Al.o hf;clear Ai Ad Ab;generalize (x.ins[k]?.getD default).nm=nm at *
    cases hx:(nm.toList==s.toList) with
    | true=>
     have HE:=Hd (Am.o hx)
     go_wp2_with fail
     go_ret
     exact⟨cR HE.o.symm,Ac.o.trans (Ae.o.mono Ac.o.size)⟩
    | false=>
     have Aj:=Hd (Ak.o hx)
     go_wp2_with fail
     go_roundw
     case rel=>exact⟨k+1,by omega,by go_num,Aj.o,Ae.o⟩
     case measure=>simp [intOf];omega
  . have An:k=n1:=by omega
    have HE:=Hd (HN.o fun j hj=>Ad j (by omega));clear Ad Ab
    go_wp2_with fail
    go_ret
    exact⟨cR HE.o.symm,Ac.o.trans (Ae.o.mono Ac.o.size)⟩
theorem aDd(s:ByteArray) (a b:List ByteArray):jY s (a++b)=jY s a+jY s b:=by simp [jY]
theorem aEm(s:ByteArray) (l:List ByteArray):jY s l<=l.length:=List.length_filter_le _ _
theorem aH3(n:Nd) (s:ByteArray) (i:Nat):mH n s i 0=eX n s i:=by simp [mH,eX]
theorem aH4{n:Nd}{s:ByteArray}{i j:Nat}(hj:j<(n.eqs[i]?.getD default).ns.length):mH n s i (j+1)=mH n s i j+(if(((n.eqs[i]?.getD default).ns[j]?.getD ByteArray.empty).toList==s.toList)=true then 1 else 0):=by
 unfold mH;rw [List.take_add_one,Yk hj,<- Yw,aDd]
 congr 1
 simp only [Option.toList_some,Yt,Zc];unfold jY
 by_cases h:bQ s (n.eqs[i]?.getD default).ns[j]=true
 . rw [List.filter_cons_of_pos h];exact(if_pos h).symm
 . rw [List.filter_cons_of_neg h];exact(if_neg h).symm
theorem aJ0{n:Nd}{s:ByteArray}{i j:Nat}(hi:i<n.eqs.length) (hj:j=(n.eqs[i]?.getD default).ns.length):mH n s i j=eX n s (i+1):=by
 unfold mH eX;rw [hj,List.take_length,List.take_add_one,Yk hi,List.flatMap_append]
 simp
theorem aJ1(n:Nd) (s:ByteArray):eX n s 0=0:=by simp [eX,jY]
end
section
open Go.RowKit Go.Sort
def oP(n:Nd):Prop:=n.eqs.length<=1000/\∀ q∈n.eqs,q.ns.length<=1000
theorem oP.at_{n:Nd}(h:oP n){i:Nat}(hi:i<n.eqs.length):(n.eqs[i]?.getD default).ns.length<=1000:=by
 rw [Yk hi,Yt];exact h.2 _ (Zg _)
theorem yC{n:Nd}{s:ByteArray}(h:oP n):∀ i,eX n s i<=1000*n.eqs.length:=by
 intro i;refine Yp (aEm _ _) ?_
 have h1:∀ (l:List Qn),(∀ q∈l,q.ns.length<=1000)->(l.flatMap Qn.ns).length<=1000*l.length:=by
  intro l
  induction l with
  | nil=>intro _;simp
  | cons a l ih=>
   intro hl;have h2:=ih fun q hq=>hl q (by simp [hq]);have h3:=hl a (by simp);simp only [List.flatMap_cons,Yn,Yo];omega
 have h2:=h1 (n.eqs.take i) fun q hq=>h.2 q (List.mem_of_mem_take hq);have h3:(n.eqs.take i).length<=n.eqs.length:=by rw [List.length_take];omega
 exact Yp h2 (Nat.mul_le_mul_left _ h3)
theorem aMy{n:Nd}{s:ByteArray}(h:oP n) (i j:Nat):mH n s i j<=1000*n.eqs.length+j:=by
 have h1:=yC (s:=s) h i;unfold mH;rw [aDd];have h2:=aEm s ((n.eqs[i]?.getD default).ns.take j);have h3:((n.eqs[i]?.getD default).ns.take j).length<=j:=by rw [List.length_take];omega
 unfold eX at h1;omega
theorem zV(x:Nd) (A1:Option Addr) (c1:Nat) (A2:Option Addr) (c2:Nat) (A3:Option Addr) (c3:Nat) (A4:Option Addr) (c4:Nat) (s:ByteArray) (m:Nat) (w:World) (h:cJ w x A1 A2 A3 A4) (hm:m<=x.eqs.length) (hq:oP x):
 Calls Tryz.prog 74 #[.agg (bL x A1 c1 A2 c2 A3 c3 A4 c4),.string s,.int .i64 m] w fun e w'=>e=.returned (.int .i64 (eX x s m))/\Below w.heap.size w w':=by
 have HF:=Hd fun w1 hw=>iB w x A1 c1 A2 c2 A3 c3 A4 c4 w1 hw h;have Bf:=aQ.max h.2.2.2;have Az:=hq.1;have Ak:=Hd fun i (hi:i<x.eqs.length)=>hq.at_ hi;have Ai:=Hd fun i j hj=>aH4 (n:=x) (s:=s) (i:=i) (j:=j) hj;have Ao:=Hd fun i j hi hj=>aJ0 (n:=x) (s:=s) (i:=i) (j:=j) hi hj;have HZ:=Hd fun i=>aH3 x s i;have Aq:=Hd (aJ1 x s);have Aj:=Hd fun i j=>aMy (s:=s) hq i j;clear h hq;unfold bL at HF ⊢;generalize Be:x.eqs.length=nq at *;generalize mH x s=dt at *;generalize eX x s=dn at *
 go_enter Tryz.func74,Tryz.ntmps74
 go_upto_region 1 with(fail)
 generalize Af:w.alloc _=w1;obtain⟨Ad,hg,Ag,Aa⟩:=HF.o w1 Af;have Ax:=Hd Ad;have q4:=Aa w1 (Yg _ _) 4;simp only [Ya,Yb,Yc] at q4;have HR:=Hd Ag.2.2.2;clear Af Aa Ad HF Ag hg
 go_wp2_with fail
 go_loopw [7,8] (fun c i wr=>∃ k:Nat,k<=m/\i=.int .i64 k/\c=.int .i64 (dn k)/\wr=w1) (fun _ i _=>m-(intOf i).toNat)
 case atStart=>exact⟨0,Yq _,rfl,by rw [Aq.o];rfl,rfl⟩
 case round=>
  obtain⟨k,hk,rfl,rfl,rfl⟩:=hrel
  by_cases Ay:k<m
  . obtain⟨b,Bb,rfl,hb,Ae⟩:=aQ.at_ HR.o (by omega);obtain⟨A,c,A',ca,B',cb,r1,r2,e0,-⟩:=(Ae k (by omega)).seven;have Bd:=Ak.o k (by omega);have As:=Hd fun j hj=>Ai.o k j hj;have Al:=Hd fun j hj=>Ao.o k j (by omega) hj;have Av:=Hd (HZ.o k);have Am:=Hd (Aj.o k);have Au:=Hd r1;clear Ae r2 r1;generalize An:(x.eqs[k]?.getD default).ns.length=nk at *;generalize (x.eqs[k]?.getD default).ns=ns at *
    go_wp2_with fail
    go_loopw [7,9] (fun c i Ap=>∃ j:Nat,j<=nk/\i=.int .i64 j/\c=.int .i64 (dt k j)/\Ap=wr) (fun _ i _=>nk-(intOf i).toNat)
    case atStart=>exact⟨0,Yq _,rfl,by rw [Av.o],rfl⟩
    case round=>
     obtain⟨j,hj,rfl,rfl,rfl⟩:=hrel;have Bc:=Am.o j
     by_cases Ac:j<nk
     . obtain⟨b2,Ar,rfl,Ba,Ab⟩:=Au.o.at_ Ac;have d0:=Ab j Ac;have HN:=Hd (As.o j Ac);clear Ab;generalize ns[j]?.getD ByteArray.empty=y at *;generalize dt k j=dj at *
       cases hx:(y.toList==s.toList) with
       | true=>
        have HE:=Hd (show dt k (j+1)=dj+1 by rw [HN.o,if_pos hx])
        go_wp2_with fail
        go_roundw
        case rel=>exact⟨j+1,by omega,by go_num,by rw [HE.o];go_num,(by first | trivial | rfl)⟩
        case measure=>simp [intOf];omega
       | false=>
        have HE:=Hd (show dt k (j+1)=dj by rw [HN.o,if_neg (by rw [hx];simp)];rfl)
        go_wp2_with fail
        go_roundw
        case rel=>exact⟨j+1,by omega,by go_num,by rw [HE.o],(by first | trivial | rfl)⟩
        case measure=>simp [intOf];omega
     . have Aw:j=nk:=by omega
       have HE:=Hd (Al.o j Aw)
       go_wp2_with fail
       go_roundw
       case rel=>exact⟨k+1,by omega,by go_num,by rw [HE.o],(by first | trivial | rfl)⟩
       case measure=>simp [intOf];omega
  . have Ah:k=m:=by omega
    subst Ah
    go_wp2_with fail
    go_ret
    exact⟨rfl,Ax.o⟩
end
end Go.Proofs.YtegjgiofmpolnaaGreat
