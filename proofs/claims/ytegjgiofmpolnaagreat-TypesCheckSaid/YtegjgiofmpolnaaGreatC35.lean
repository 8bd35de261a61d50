/- Parts of the proof: TrD, TrF, TrG. Conditions: each theorem's own. -/
import Derived.Deep.RegionHeldLaw
import Derived.Test.YtegjgiofmpolnaaGreatC30
import Derived.Test.YtegjgiofmpolnaaGreatC33
namespace Go.Proofs.YtegjgiofmpolnaaGreat
set_option linter.unusedVariables false
set_option linter.unusedSimpArgs false
set_option maxRecDepth 100000
set_option maxHeartbeats 40000000
section
open Go.RowKit Go.Sort Go.BigFrame
structure Rm where
 E:Option Addr
 ec:Nat
 N:Option Addr
 nc:Nat
 A1:Option Addr
 c1:Nat
 A2:Option Addr
 c2:Nat
 A3:Option Addr
 c3:Nat
 A4:Option Addr
 c4:Nat
def aT(p:Pg) (x:Nd) (r:Rm):Array Value:=#[.slice r.E p.es.length r.ec,.slice r.N p.ns.length r.nc,.string x.nm,.slice r.A1 x.ins.length r.c1,.slice r.A2 x.outs.length r.c2,.slice r.A3 x.vars.length r.c3,.slice r.A4 x.eqs.length r.c4]
def cY(w:World) (p:Pg) (x:Nd) (r:Rm):Prop:=cW w p r.E r.N/\cJ w x r.A1 r.A2 r.A3 r.A4
theorem cY.below{w w':World}{p:Pg}{x:Nd}{r:Rm}(h:cY w p x r) (hb:Below w.heap.size w w'):cY w' p x r:=⟨h.1.below hb,h.2.below hb⟩
theorem lB{w w1:World}{cs:Array Value}{T:TypeId}(h:w.alloc (.cells cs T)=w1):Below w.heap.size w w1/\w1.heap.size=w.heap.size+1/\∀ w',Below w1.heap.size w1 w'->∀ j,w'.cell? ⟨w.heap.size,j,none⟩=cs[j]?:=by
 subst h;refine⟨(Yg _ _).alloc (Yh _) _,by simp,nU (T:=T) (Zw _ _)⟩
theorem jQ{w w1:World}{cs ds:Array Value}{T U:TypeId}(h:(w.alloc (.cells cs T)).alloc (.cells ds U)=w1):Below w.heap.size w w1/\w1.heap.size=w.heap.size+2/\(∀ w',Below w1.heap.size w1 w'->∀ j,w'.cell? ⟨w.heap.size,j,none⟩=cs[j]?)/\(∀ w',Below w1.heap.size w1 w'->∀ j,w'.cell? ⟨w.heap.size+1,j,none⟩=ds[j]?):=by
 subst h;refine⟨((Yg _ _).alloc (Yh _) _).alloc (by simp) _,by simp,nU (T:=T) (dX _ (Zw _ _)),nU (T:=U) (heap_alloc2_new _ _ _)⟩
theorem aD1{w w1:World}{cs:Array Value}{T U:TypeId}(h:(w.alloc (.cells cs T)).alloc (.cells #[.int .i64 0,.int .i64 0,.int .i64 0] U)=w1):Below w.heap.size w w1/\w1.heap.size=w.heap.size+2/\(∀ w',Below w1.heap.size w1 w'->∀ j,w'.cell? ⟨w.heap.size,j,none⟩=cs[j]?)/\F3 U w1 (w.heap.size+1) 0 0 0:=by
 have h2:=jQ h;subst h;exact⟨h2.1,h2.2.1,h2.2.2.1,heap_alloc2_new _ _ _⟩
theorem fL{w w1:World}{cs ds:Array Value}{T U V:TypeId}(h:((w.alloc (.cells cs T)).alloc (.cells ds U)).alloc (.cells #[.int .i64 0,.int .i64 0,.int .i64 0] V)=w1):Below w.heap.size w w1/\w1.heap.size=w.heap.size+3/\(∀ w',Below w1.heap.size w1 w'->∀ j,w'.cell? ⟨w.heap.size,j,none⟩=cs[j]?)/\(∀ w',Below w1.heap.size w1 w'->∀ j,w'.cell? ⟨w.heap.size+1,j,none⟩=ds[j]?)/\F3 V w1 (w.heap.size+1+1) 0 0 0:=by
 generalize Ab:(w.alloc (.cells cs T)).alloc (.cells ds U)=w0 at h;obtain⟨h1,h2,h3,h4⟩:=jQ Ab;subst h;have hb:=(Yg w0.heap.size w0).alloc (Yh _) (.cells #[.int .i64 0,.int .i64 0,.int .i64 0] V);refine⟨h1.trans (hb.mono h1.size),by simp;omega,fun w' Aa j=>h3 w' (hb.trans (Aa.mono hb.size)) j,fun w' Aa j=>h4 w' (hb.trans (Aa.mono hb.size)) j,?_⟩;have h0:=F3.new V w0 0 0 0;rwa [show w0.heap.size=w.heap.size+1+1 by omega] at h0
theorem aR{w w1 w2:World}(h:Below w.heap.size w w1) (hb:Below w1.heap.size w1 w2):Below w.heap.size w w2:=h.trans (hb.mono h.size)
theorem wH(p:Pg) (x:Nd) (r:Rm) (s:ByteArray) (w:World) (h:cY w p x r):
 Calls Tryz.prog 78 #[.agg (aT p x r),.string s] w (aZ w ((aW x s).map aO)):=by
 have Ab:=Hd fun w1 (hb:Below w.heap.size w w1)=>aR3 x r.A1 r.c1 r.A2 r.c2 r.A3 r.c3 r.A4 r.c4 s w1 (h.below hb).2;unfold mB nG at Ab
 have HZ:=Hd (show ∀ e w',(e=.returned (.tuple #[.agg (aC ((aW x s).getD default).k ((aW x s).getD default).e ((aW x s).getD default).l),.bool (aW x s).isSome])/\Below w.heap.size w w')->aZ w ((aW x s).map aO) e w' from fun e w' h=>by
  cases hd:aW x s with
  | none=>rw [hd] at h;exact h
  | some d=>rw [hd] at h;exact h)
 generalize aZ w ((aW x s).map aO)=Al at *;generalize (aW x s).getD default=dd at *;generalize (aW x s).isSome=ds at *;unfold bC bL at Ab;unfold aC at HZ;clear h;unfold aT
 go_enter Tryz.func78,Tryz.ntmps78
 go_upto_region 1 with(fail)
 generalize Ae:(w.alloc _).alloc _=w0;obtain⟨Ag,Am,Aa,hR⟩:=aD1 Ae;have Aj:=Hd Ag;have HR:=Hd hR;obtain⟨-,-,q2,q3,q4,q5⟩:=Sx (Aa w0 (Yg _ _));have q6:=Aa w0 (Yg _ _) 6;simp only [Ya,Yb,Yc] at q2 q3 q4 q5 q6;clear Ae Ag Am Aa hR
 go_wp2_with fail
 refine(Ab.o w0 Aj.o).mono ?_;rintro e w1 ⟨rfl,Ad⟩;have Af:=Hd (HR.o.below Ad);have Ao:=Hd (aR Aj.o Ad);clear Ad q2 q3 q4 q5 q6 Ab
 go_upto_region 2 with(fail)
 generalize Ai:w1.alloc _=w2;obtain⟨Ac,Ak,Aa⟩:=lB Ai;have Ah:=Hd (Af.o.below Ac);have An:=Hd (aR Ao.o Ac);obtain⟨-,e1,e2,e3,-,-⟩:=Sx (Aa w2 (Yg _ _));simp only [Ya,Yb,Yc] at e1 e2 e3;clear Ai Ac Ak Aa Af
 go_wp2_with (refine Zu rfl _ _ _ rfl (w.heap.size+1) _ rfl rfl _ _ Ah.o bM rfl (by simp [Value.oneCell']) ?_)
 exact Zt (aL (p:=4) (u:=5) rfl _ _ (w.heap.size+1) dd.k dd.e dd.l rfl (Ah.o.set _ _ _)) rfl (HZ.o _ _ ⟨rfl,Xb An.o (by omega) _⟩)
theorem aF2(p:Pg) (x:Nd) (r:Rm) (s:ByteArray) (a b c:Int) (w:World) (h:cY w p x r):
 Calls Tryz.prog 61 #[.agg (aT p x r),.string s,.agg (aC a b c)] w fun e w'=>e=.returned (.bool (fR x s (a,b,c)))/\Below w.heap.size w w':=by
 have Ac:=Hd fun w1 (hb:Below w.heap.size w w1)=>wH p x r s w1 (h.below hb);have HB:=Hd (show fR x s (a,b,c)=match (aW x s).map aO with | none=>false | some t=>decide (t=(a,b,c)) from by unfold fR;cases aW x s <;> rfl);clear h;generalize fR x s (a,b,c)=Ao at *;generalize (aW x s).map aO=o at *;unfold aZ aC at Ac;unfold aT aC at *
 cases o with
 | none=>
  have HO:=Hd (show Ao=false from HB.o);simp only [Option.getD_none,Option.isSome_none] at Ac
  go_enter Tryz.func61,Tryz.ntmps61
  go_upto_region 1 with(fail)
  generalize Af:(w.alloc _).alloc _=w0;obtain⟨Ag,Ak,Aa,Ab⟩:=jQ Af;have Ai:=Hd Ag;have HC:=Hd Aa;have An:=Hd Ab;obtain⟨q0,q1,q2,q3,q4,q5⟩:=Sx (Aa w0 (Yg _ _));have q6:=Aa w0 (Yg _ _) 6;simp only [Ya,Yb,Yc] at q0 q1 q2 q3 q4 q5 q6;clear Af Ag Ak Aa Ab
  go_wp2_with fail
  refine(Ac.o w0 Ai.o).mono ?_;rintro e w1 ⟨rfl,Ae⟩;have Am:=Hd (aR Ai.o Ae);clear Ae q0 q1 q2 q3 q4 q5 q6 Ac
  go_upto_region 2 with(fail)
  generalize Ah:w1.alloc _=w2;obtain⟨Ad,Aj,Aa⟩:=lB Ah;have Al:=Hd (aR Am.o Ad);clear Ah Ad Aj Aa
  go_wp2_with fail
  go_ret
  exact⟨aF HO.o.symm,Al.o⟩
 | some t=>
  obtain⟨t0,t1,t2⟩:=t;simp only [Yt,Option.isSome_some] at Ac;rcases iC t0 t1 t2 a b c with⟨h0,h1,h2,he⟩|⟨h1,he⟩|⟨h0,h1,he⟩|⟨h0,h1,h2,he⟩
  all_goals
   have HO:=Hd (show Ao=_ from HB.o.trans (by first | exact Zx he | exact Zy he));clear he
   try subst h0
   try subst h1
   try subst h2
   go_enter Tryz.func61,Tryz.ntmps61
   go_upto_region 1 with(fail)
   generalize Af:(w.alloc _).alloc _=w0;obtain⟨Ag,Ak,Aa,Ab⟩:=jQ Af;have Ai:=Hd Ag;have HC:=Hd Aa;have An:=Hd Ab;obtain⟨q0,q1,q2,q3,q4,q5⟩:=Sx (Aa w0 (Yg _ _));have q6:=Aa w0 (Yg _ _) 6;simp only [Ya,Yb,Yc] at q0 q1 q2 q3 q4 q5 q6;clear Af Ag Ak Aa Ab
   go_wp2_with fail
   refine(Ac.o w0 Ai.o).mono ?_;rintro e w1 ⟨rfl,Ae⟩;have Am:=Hd (aR Ai.o Ae);have Ap:=Hd fun w' (hb:Below w1.heap.size w1 w') j=>An.o w' (aR Ae hb) j;clear Ae q0 q1 q2 q3 q4 q5 q6 Ac
   go_upto_region 2 with(fail)
   generalize Ah:w1.alloc _=w2;obtain⟨Ad,Aj,Aa⟩:=lB Ah;have Al:=Hd (aR Am.o Ad);obtain⟨e0,e1,e2,-,-,-⟩:=Sx (Aa w2 (Yg _ _));obtain⟨f0,f1,f2,-,-,-⟩:=Sx (Ap.o w2 Ad);simp only [Ya,Yb,Yc] at e0 e1 e2 f0 f1 f2;clear Ah Ad Aj Aa
   go_wp2_with fail
   go_ret
   exact⟨aF HO.o.symm,Al.o⟩
end
section
open Go.RowKit Go.Sort Go.BigFrame
theorem aOa{es:List En}{n:Nd}{s:ByteArray}{arms:List ByteArray}{k:Nat}(hk:k<arms.length) (h:gO es n s (arms[k]?.getD ByteArray.empty)=false):eR es n s arms=false:=by
 unfold eR;rw [List.all_eq_false];exact⟨_,Zg hk,by rw [Yk hk] at h;simpa using h⟩
theorem aLj{es:List En}{n:Nd}{s:ByteArray}{arms:List ByteArray}(h:∀ j,j<arms.length->gO es n s (arms[j]?.getD ByteArray.empty)=true):eR es n s arms=true:=by
 unfold eR;rw [Zf];intro a ha;obtain⟨j,hj,rfl⟩:=Zi ha;have:=h j hj;rwa [Yk hj] at this
theorem yK(p:Pg) (x:Nd) (r:Rm) (s:ByteArray) (A:Option Addr) (n c:Nat) (arms:List ByteArray) (w:World) (h:cY w p x r) (hA:aN w A n arms):
 Calls Tryz.prog 58 #[.agg (aT p x r),.string s,.slice A n c] w fun e w'=>e=.returned (.bool (eR p.es x s arms))/\Below w.heap.size w w':=by
 have Bg:=hA.len;have Bi:=hA.max;have Aw:=Hd fun(a:ByteArray) w1 (hb:Below w.heap.size w w1)=>zK r.E p.es.length r.ec p.es a w1 (h.below hb).1.1;have Ba:=Hd fun a b c w1 (hb:Below w.heap.size w w1)=>aF2 p x r s a b c w1 (h.below hb);have Bd:=Hd fun k (hk:k<n) hf=>aOa (es:=p.es) (n:=x) (s:=s) (arms:=arms) (k:=k) (by omega) hf;have Ay:=Hd fun hf=>aLj (es:=p.es) (n:=x) (s:=s) (arms:=arms) hf;have Be:=Hd (show ∀ a,gO p.es x s a=match cU p.es a with | none=>false | some q=>fR x s (q.1,q.2.1,0) from fun a=>rfl);have Az:=Hd hA;clear h hA;unfold nI at Aw;generalize eR p.es x s arms=Bj at *;unfold aT aC at *
 go_enter Tryz.func58,Tryz.ntmps58
 go_upto_region 1 with(fail)
 generalize Ap:w.alloc _=w0;obtain⟨Av,Bb,Ab⟩:=lB Ap;have Bc:=Hd Av;have HC:=Hd Ab;clear Ap Av Bb Ab
 go_wp2_with fail
 go_loopw [14] (fun i wr=>∃ k:Nat,k<=n/\i=.int .i64 k/\(∀ j,j<k->gO p.es x s (arms[j]?.getD ByteArray.empty)=true)/\Below w0.heap.size w0 wr) (fun i _=>n-(intOf i).toNat)
 case atStart=>exact⟨0,Yq _,rfl,fun j hj=>absurd hj (by omega),Yg _ _⟩
 case round=>
  obtain⟨k,hk,rfl,Ax,Aj⟩:=hrel;have Ar:=Hd Ax;have Aq:=Hd Aj;have Af:=Hd (aR Bc.o Aj);clear Ax Aj
  by_cases Al:k<n
  . obtain⟨b,Bh,rfl,hb,hc⟩:=(Az.o.below Af.o).at_ Al;have d0:=hc k Al;have HN:=Hd (Bd.o k Al);have As:=Hd fun e=>dK (P:=fun j=>gO p.es x s (arms[j]?.getD ByteArray.empty)=true) Ar.o e;have q0:=HC.o wr Aq.o 0;simp only [Ya,Yb,Yc] at q0;clear hc;generalize arms[k]?.getD ByteArray.empty=a at d0 HN As;have Ae:=Hd (Be.o a);have Aa:=Hd (Aw.o a wr Af.o);generalize cU p.es a=o at Ae Aa
    cases o with
    | none=>
     have HO:=Hd (HN.o Ae.o);simp only [Option.map_none,Option.getD_none,Option.isSome_none] at Aa
     go_wp2_with fail
     refine Aa.o.mono ?_;rintro e w1 ⟨rfl,Ac⟩;have Ao:=Hd (aR Af.o Ac);clear Ac Aa d0 q0
     go_upto_region 5 with(fail)
     generalize Ag:w1.alloc _=w2;obtain⟨Ad,An,Ab⟩:=lB Ag;have Ai:=Hd (aR Ao.o Ad);clear Ag Ad An Ab
     go_wp2_with fail
     go_ret
     exact⟨aF HO.o.symm,Ai.o⟩
    | some q=>
     obtain⟨qa,qb,qc⟩:=q;simp only [Option.map_some,Yt,Option.isSome_some] at Aa;have Ae:=Hd (show gO p.es x s a=fR x s (qa,qb,0) from Ae.o);have Au:=Hd fun w1 hb=>Ba.o qa qb 0 w1 hb;generalize fR x s (qa,qb,0)=hb at *
     go_wp2_with fail
     refine Aa.o.mono ?_;rintro e w1 ⟨rfl,Ac⟩;have Ao:=Hd (aR Af.o Ac);have Bf:=Hd (aR Aq.o Ac);clear Ac Aa d0 q0
     go_upto_region 5 with(fail)
     generalize Ag:w1.alloc _=w2;obtain⟨Ad,An,Ab⟩:=lB Ag;have Ai:=Hd (aR Ao.o Ad);have Ak:=Hd (aR Bf.o Ad);obtain⟨e0,e1,e2,-,-,-⟩:=Sx (Ab w2 (Yg _ _));obtain⟨q0,q1,q2,q3,q4,q5⟩:=Sx (HC.o w2 Ak.o);have q6:=HC.o w2 Ak.o 6;simp only [Ya,Yb,Yc] at e0 e1 e2 q0 q1 q2 q3 q4 q5 q6;clear Ag Ad An Ab
     cases hb with
     | false=>
      have HO:=Hd (HN.o Ae.o)
      go_wp2_with fail
      refine(Au.o w2 Ai.o).mono ?_;rintro e w3 ⟨rfl,Ah⟩;have Am:=Hd (aR Ai.o Ah);clear Ah
      go_wp2_with fail
      go_ret
      exact⟨aF HO.o.symm,Am.o⟩
     | true=>
      have HO:=Hd (As.o Ae.o)
      go_wp2_with fail
      refine(Au.o w2 Ai.o).mono ?_;rintro e w3 ⟨rfl,Ah⟩;have Am:=Hd (aR Ak.o Ah);clear Ah
      go_wp2_with fail
      go_roundw
      case rel=>exact⟨k+1,by omega,by go_num,HO.o,Am.o⟩
      case measure=>simp [intOf];omega
  . have HY:=Hd (Ay.o fun j hj=>Ar.o j (by omega))
    go_wp2_with fail
    go_ret
    exact⟨aF HY.o.symm,Af.o⟩
theorem aN.lit2(w:World) (a b:ByteArray) (T:TypeId):aN (w.alloc (.cells #[.string a,.string b] T)) (some ⟨w.heap.size,0,none⟩) 2 [a,b]:=
 ⟨rfl,by omega,fun _=>⟨_,0,rfl,by simp,fun i hi=>by
  rw [Zo];rcases(show i=0\/i=1 by omega) with rfl | rfl <;> rfl⟩⟩
theorem aN.lit1(w:World) (a:ByteArray) (T:TypeId):aN (w.alloc (.cells #[.string a] T)) (some ⟨w.heap.size,0,none⟩) 1 [a]:=
 ⟨rfl,by omega,fun _=>⟨_,0,rfl,by simp,fun i hi=>by
  rw [Zo];obtain rfl:i=0:=by omega
  rfl⟩⟩
theorem aOb{es:List En}{n:Nd}{s:ByteArray}{arms:List ByteArray}(h:eR es n s arms=true) (h1:0<arms.length) (Aa:∀ d,aW n s=some d->bH es.length d.k d.e d.l=true):
 ∃ d,aW n s=some d/\(d.k=2\/(d.k=3/\∃ m:Nat,d.e=m/\m<es.length)):=by
 obtain⟨a,l,rfl⟩:=List.exists_cons_of_length_pos h1;unfold eR at h;rw [List.all_cons,Ys] at h;have h:=h.1
 cases hd:aW n s with
 | none=>
  unfold gO fR at h;rw [hd] at h
  split at h <;> cases h
 | some d=>
  refine⟨d,rfl,?_⟩;have hr:=Aa d hd;rcases aE0 hd h with h | h
  . exact .inl (congrArg (·.1) h)
  . have hk:d.k=3:=h.1;refine .inr ⟨hk,?_⟩;unfold bH at hr;rw [hk] at hr;simp only [Ys,decide_eq_true_eq] at hr;have h2:=hr.2;rw [if_neg (by omega)] at h2;have h2:=of_decide_eq_true h2;exact⟨d.e.toNat,by omega,by omega⟩
theorem aOc(p:Pg) (x:Nd) (r:Rm) (s:ByteArray) (A:Option Addr) (n c:Nat) (arms:List ByteArray) (w:World) (h:cY w p x r) (hA:aN w A n arms) (hn:0<n) (Ay:∀ d,aW x s=some d->bH p.es.length d.k d.e d.l=true):
 Calls Tryz.prog 120 #[.agg (aT p x r),.string s,.slice A n c] w fun e w'=>e=.returned (.bool (pF p.es x s arms))/\Below w.heap.size w w':=by
 have Bh:=hA.len;have Aw:=Hd fun w1 (hb:Below w.heap.size w w1)=>yK p x r s A n c arms w1 (h.below hb) (hA.below hb);have Ae:=Hd fun w1 (hb:Below w.heap.size w w1)=>wH p x r s w1 (h.below hb);have Aq:=Hd fun(B:Option Addr) (m d:Nat) (tt:List ByteArray) w1 (hb:Below w.heap.size w w1) (ht:aN w1 B m tt)=>aEd A B n m c d arms tt w1 (hA.below hb) ht;have Bc:=Hd h.1.1;have As:=Hd fun ht=>aOb (es:=p.es) (n:=x) (s:=s) (arms:=arms) ht (by omega) Ay;have Ad:=Hd (show pF p.es x s arms=(eR p.es x s arms && (if((fZ (aW x s)).1==2)=true then dP arms [kQ,kN] else dP arms (bT p.es (fZ (aW x s)).2.1.toNat))) from rfl);clear h hA Ay;generalize pF p.es x s arms=Ai at *;generalize eR p.es x s arms=tb at *;unfold aZ aC at Ae;unfold aT at *
 go_enter Tryz.func120,Tryz.ntmps120
 go_upto_region 1 with(fail)
 generalize Ap:w.alloc _=w0;obtain⟨An,Bd,Ah⟩:=lB Ap;have Ar:=Hd An;have HC:=Hd Ah;obtain⟨q0,q1,q2,q3,q4,q5⟩:=Sx (Ah w0 (Yg _ _));have q6:=Ah w0 (Yg _ _) 6;simp only [Ya,Yb,Yc] at q0 q1 q2 q3 q4 q5 q6;have Am:=Hd (Aw.o w0 An);clear Ap An Bd Ah Aw
 cases tb with
 | false=>
  have HO:=Hd (show Ai=false by rw [Ad.o];rfl)
  go_wp2_with fail
  refine Am.o.mono ?_;rintro e w1 ⟨rfl,Aa⟩;have Aj:=Hd (aR Ar.o Aa);clear Aa
  go_wp2_with fail
  go_ret
  exact⟨aF HO.o.symm,Aj.o⟩
 | true=>
  obtain⟨d,hd,Av⟩:=As.o rfl;rw [hd] at Ae Ad;simp only [Option.map_some,Yt,Option.isSome_some,aO] at Ae;have Ad:=Hd (show Ai=(if(d.k==2)=true then dP arms [kQ,kN] else dP arms (bT p.es d.e.toNat)) by rw [Ad.o,Bool.true_and];rfl);have Ba:=Hd Av;clear hd As Av;generalize d.k=dk at *;generalize d.e=de at *;generalize d.l=dl at *
  go_wp2_with fail
  refine Am.o.mono ?_;rintro e w1 ⟨rfl,Aa⟩;have Aj:=Hd (aR Ar.o Aa);have Bg:=Hd Aa;obtain⟨q0,q1,q2,q3,q4,q5⟩:=Sx (HC.o w1 Aa);have q6:=HC.o w1 Aa 6;simp only [Ya,Yb,Yc] at q0 q1 q2 q3 q4 q5 q6;clear Aa Am
  go_wp2_with fail
  refine(Ae.o w1 Aj.o).mono ?_;rintro e w2 ⟨rfl,Al⟩;have Bf:=Hd (aR Aj.o Al);have Az:=Hd (aR Bg.o Al);clear Al q0 q1 q2 q3 q4 q5 q6 Ae
  go_upto_region 4 with(fail)
  generalize Au:w2.alloc _=w3;obtain⟨Ao,Be,Ab⟩:=lB Au;have Ac:=Hd (aR Bf.o Ao);have Bb:=Hd (aR Az.o Ao);have e0:=Ab w3 (Yg _ _) 0;have e1:=Ab w3 (Yg _ _) 1;have q0:=HC.o w3 Bb.o 0;simp only [Ya,Yb,Yc] at e0 e1 q0;clear Au Ao Be Ab;rcases Ba.o with hk | ⟨hk,m,hm,hml⟩
  . subst hk;have HO:=Hd (show Ai=dP arms [kQ,kN] from Ad.o);have Ag:=Hd (Aq.o (some ⟨w3.heap.size,0,none⟩) 2 2 [kQ,kN] _ (Ac.o.alloc Ac.o.size _) (aN.lit2 w3 kQ kN 9));unfold kQ kN at Ag
    go_wp2_with fail
    refine Ag.o.mono ?_;rintro e w4 ⟨rfl,Af⟩;have Ak:=Hd (aR (Ac.o.alloc Ac.o.size _) Af);clear Af
    go_wp2_with fail
    go_ret
    exact⟨aF HO.o.symm,Ak.o⟩
  . subst hk hm;have HO:=Hd (show Ai=dP arms (bT p.es m) from Ad.o);obtain⟨b,Bi,hE,hb,hc⟩:=(Bc.o.below Ac.o).at_ hml;obtain⟨-,A',n',c',Bj,Ax⟩:=hc m hml;rw [hE] at q0;have Ag:=Hd (Aq.o A' n' c' (bT p.es m) w3 Ac.o Ax);clear hc Ax
    go_wp2_with fail
    refine Ag.o.mono ?_;rintro e w4 ⟨rfl,Af⟩;have Ak:=Hd (aR Ac.o Af);clear Af
    go_wp2_with fail
    go_ret
    exact⟨aF HO.o.symm,Ak.o⟩
end
section
open Go.RowKit Go.Sort Go.BigFrame
def mL(es:List En) (x:Nd) (d:Dc):Bool:=!(d.on.toList==[]) && !eR es x d.on [d.ct]
theorem aI1(p:Pg) (x:Nd) (r:Rm) (d:Dc) (w:World) (h:cY w p x r):
 Calls Tryz.prog 24 #[.agg (aT p x r),.agg (bC d)] w fun e w'=>e=.returned (.bool (mL p.es x d))/\Below w.heap.size w w':=by
 have Ai:=Hd fun(A:Option Addr) w1 (hb:Below w.heap.size w w1) (hA:aN w1 A 1 [d.ct])=>yK p x r d.on A 1 1 [d.ct] w1 (h.below hb) hA;have HO:=Hd (show mL p.es x d=(!(d.on.toList==[]) && !eR p.es x d.on [d.ct]) from rfl);clear h;generalize mL p.es x d=Ah at *;generalize eR p.es x d.on [d.ct]=tb at *;unfold aT bC at *;generalize d.on=on at *;generalize d.ct=ct at *
 cases h1:(on.toList==[]) with
 | true=>
  have h2:on.toList.isEmpty=true:=by rw [<- h1];cases on.toList <;> rfl
  have HR:=Hd (show Ah=false by rw [HO.o,h1];rfl)
  go_enter Tryz.func24,Tryz.ntmps24
  go_upto_region 1 with(fail)
  generalize Ac:(w.alloc _).alloc _=w0;obtain⟨Ab,Af,Ad,Aa⟩:=jQ Ac;have Ae:=Hd Ab;have d4:=Aa w0 (Yg _ _) 4;simp only [Ya,Yb,Yc] at d4;clear Ac Ab Af Ad Aa
  go_wp2_with fail
  go_ret
  exact⟨cR HR.o.symm,Ae.o⟩
 | false=>
  have h2:on.toList.isEmpty=false:=by rw [<- h1];cases on.toList <;> rfl
  have HR:=Hd (show Ah=!tb by rw [HO.o,h1];rfl)
  go_enter Tryz.func24,Tryz.ntmps24
  go_upto_region 1 with(fail)
  generalize Ac:(w.alloc _).alloc _=w0;obtain⟨Ab,Af,Ad,Aa⟩:=jQ Ac;have Ae:=Hd Ab;obtain⟨q0,q1,q2,q3,q4,q5⟩:=Sx (Ad w0 (Yg _ _));have q6:=Ad w0 (Yg _ _) 6;have d4:=Aa w0 (Yg _ _) 4;have d5:=Aa w0 (Yg _ _) 5;simp only [Ya,Yb,Yc] at q0 q1 q2 q3 q4 q5 q6 d4 d5;have Aj:=Hd (Ai.o (some ⟨w0.heap.size,0,none⟩) _ (Ab.alloc Ab.size _) (aN.lit1 w0 ct 9));clear Ac Ab Af Ad Aa
  go_wp2_with fail
  refine Aj.o.mono ?_;rintro e w1 ⟨rfl,Ag⟩;have Ak:=Hd (aR (Ae.o.alloc Ae.o.size _) Ag);clear Ag
  go_wp2_with fail
  go_ret
  exact⟨cR HR.o.symm,Ak.o⟩
theorem aM.take{w:World}{S:Option Addr}{m:Nat}{ts:List T3}(h:aM w S m ts){a:Nat}(ha:a<=m):aM w S a (ts.take a):=
 ⟨by rw [List.length_take,h.len];omega,by have:=h.max;omega,fun h0=>by
  obtain⟨b,Aa,e,hb,hc⟩:=aQ.at_ h (by omega);refine⟨b,Aa,e,hb,fun i hi=>?_⟩;rw [List.getElem?_take_of_lt hi];exact hc i (by omega)⟩
theorem aM.drop{w:World}{b Aa m:Nat}{ts:List T3}(h:aM w (some ⟨b,Aa,none⟩) m ts){a q:Nat}(ha:m=a+q):aM w (some ⟨b,Aa+a*3,none⟩) q (ts.drop a):=
 ⟨by rw [List.length_drop,h.len];omega,by have:=h.max;omega,fun h0=>by
  obtain⟨b',Ab,e,hb,hc⟩:=aQ.at_ h (by omega);injection e with e;injection e with e1 e2;subst e1 e2;refine⟨b,_,rfl,hb,fun i hi=>?_⟩;have:=hc (a+i) (by omega);rw [List.getElem?_drop,show Aa+a*3+i*3=Aa+(a+i)*3 by omega];exact this⟩
def ndZ:Array Value:=#[.string ⟨#[]⟩,.slice none 0 0,.slice none 0 0,.slice none 0 0,.slice none 0 0]
def oQ(S:Option Addr) (m c:Nat):Prop:=m<=c/\c<=maxLen/\((S=none/\m=0/\c=0)\/∃ b Aa,S=some ⟨b,Aa,none⟩)
theorem aM.dropN{w:World}{b Aa m:Nat}{ts:List T3}(h:aM w (some ⟨b,Aa,none⟩) m ts){a:Nat}(ha:a<=m):aM w (some ⟨b,Aa+a*3,none⟩) (m-a) (ts.drop a):=h.drop (by omega)
theorem aM.none_{w:World}{S:Option Addr}{l:List T3}(h:l.length=0):aM w S 0 l:=⟨h,by omega,by omega⟩
theorem uC{W:World}{g:Nat}{cs:Array Value}{T:TypeId}(h:W.heap[g]?=some (Obj.cells cs T)) (j:Nat):W.cell? ⟨g,j,none⟩=cs[j]?:=nU h W (Yg _ _) j
theorem aI2(p:Pg) (x:Nd) (r:Rm) (y:Ex) (A:Option Addr) (ca:Nat) (B:Option Addr) (cb:Nat) (b Bv m a q sc:Nat) (ts:List T3) (w:World) (h:cY w p x r) (hS:aM w (some ⟨b,Bv,none⟩) m ts) (hm:m=a+q) (Cm:m<=sc) (Cn:sc<=maxLen) (hn:y.n=(q:Int)) (hq:q<=1) (Br:∀ j,j<p.ns.length->(aA p j).ins.length<=1000/\(aA p j).outs.length<=1000):
 Calls Tryz.prog 102 #[.agg (aT p x r),.agg (aE y A ca B cb),.slice (some ⟨b,Bv,none⟩) m sc] w (iO w ((kR p y ts).map fun j=>(aA p j).outs.map aO)):=by
 have Cj:=hS.len;have Co:=hS.max;have Bo:=Hd fun w1 (hb:Below w.heap.size w w1)=>aFi p r.E r.ec r.N r.nc y.s w1 (h.below hb).1;have HS:=Hd fun w1 (hb:Below w.heap.size w w1)=>hS.below hb;have Bx:=Hd fun w1 (hb:Below w.heap.size w w1)=>(show eW w1 r.N p.ns.length p.ns from(h.below hb).1.2)
 have HC:=Hd (show kR p y ts=if cQ p y.s<0 then none
  else if(decide (ts.take a=(aA p (cQ p y.s).toNat).ins.map aO) && dV (2,0,0) (ts.drop a))=true then some (cQ p y.s).toNat else none from by
  unfold kR;rw [hn,Cj,hm,Int.toNat_natCast,Nat.add_sub_cancel])
 have Ch:=Hd (tY p y.s);have Bm:=Hd aBq;have Bc:=Hd qI;clear h hS;generalize Bl:(kR p y ts).map (fun j=>(aA p j).outs.map aO)=oo;generalize kR p y ts=cp at *;generalize cQ p y.s=f at *;unfold aT aE aC at *;rw [hn];rcases Ch.o with rfl | ⟨i,rfl,hi⟩
 . have HN:=Hd (show oo=none by rw [<- Bl,HC.o,if_pos (by omega)];rfl);clear HC Bl HS Bx Bm Bc
   go_enter Tryz.func102,Tryz.ntmps102
   go_upto_region 1 with(fail)
   generalize Be:(w.alloc _).alloc _=w0;obtain⟨Bk,Bw,As,Aj⟩:=jQ Be;have Bi:=Hd Bk;have q0:=As w0 (Yg _ _) 0;have q1:=As w0 (Yg _ _) 1;have r2:=Aj w0 (Yg _ _) 2;simp only [Ya,Yb,Yc] at q0 q1 r2;clear Be Bk Bw As Aj
   go_wp2_with fail
   refine(Bo.o w0 Bi.o).mono ?_;rintro e w1 ⟨rfl,Au⟩;have Bp:=Hd (aR Bi.o Au);clear Au q0 q1 r2
   go_wp2_with fail
   try go_ret2
   exact⟨none,0,0,[],by rw [HN.o];rfl,fun r h=>(by rw [HN.o] at h;cases h),Bp.o⟩
 have Bu:=Hd (show cp=if(decide (ts.take a=(aA p i).ins.map aO) && dV (2,0,0) (ts.drop a))=true then some i else none by rw [HC.o,if_neg (by omega),Int.toNat_natCast]);obtain⟨nb,no,A1,c1,A2,c2,A3,c3,A4,c4,hN,Bf,Bq,d0,d1,d2,d3,d4⟩:=iN (Bx.o w (Yg _ _)) hi;obtain⟨Cc,Cg⟩:=Br i hi;have Az:=Hd fun w1 (hb:Below w.heap.size w w1)=>Bm.o A1 (p.ns[i]?.getD default).ins.length c1 (p.ns[i]?.getD default).ins w1 (Bq.below hb).1 Cc;have Bb:=Hd fun w1 (hb:Below w.heap.size w w1)=>Bm.o A2 (p.ns[i]?.getD default).outs.length c2 (p.ns[i]?.getD default).outs w1 (Bq.below hb).2.1 Cg
 have HD:=Hd (show ∀ w1,Below w.heap.size w w1->w1.cell? ⟨nb,no+i*5,none⟩=some (.string (p.ns[i]?.getD default).nm)/\w1.cell? ⟨nb,no+i*5+1,none⟩=some (.slice A1 (p.ns[i]?.getD default).ins.length c1)/\w1.cell? ⟨nb,no+i*5+2,none⟩=some (.slice A2 (p.ns[i]?.getD default).outs.length c2)/\w1.cell? ⟨nb,no+i*5+3,none⟩=some (.slice A3 (p.ns[i]?.getD default).vars.length c3)/\w1.cell? ⟨nb,no+i*5+4,none⟩=some (.slice A4 (p.ns[i]?.getD default).eqs.length c4) from
  fun w1 hb=>⟨(hb.cell (p:=⟨nb,no+i*5,none⟩) Bf).trans d0,(hb.cell (p:=⟨nb,no+i*5+1,none⟩) Bf).trans d1,(hb.cell (p:=⟨nb,no+i*5+2,none⟩) Bf).trans d2,(hb.cell (p:=⟨nb,no+i*5+3,none⟩) Bf).trans d3,(hb.cell (p:=⟨nb,no+i*5+4,none⟩) Bf).trans d4⟩)
 have Bt:=Hd (show oo=cp.map fun j=>(aA p j).outs.map aO from Bl.symm);clear d0 d1 d2 d3 d4 Bq Bx HC Bl Bm Cc Cg Ch;unfold yJ at Az Bb;rw [hN];have Ay:=Hd fun(T1:Option Addr) (tn tc:Nat) w1 (hb:Below w.heap.size w w1) (ht:aM w1 T1 tn ((aA p i).ins.map aO))=>aDy (some ⟨b,Bv,none⟩) T1 a tn sc tc (ts.take a) ((aA p i).ins.map aO) w1 ((HS.o w1 hb).take (by omega)) ht;have Ba:=Hd fun(ad:Option Addr) (n1 cc:Nat) w1 (hr:aM w1 ad n1 (ts.drop a))=>kS 2 0 0 ad n1 cc (ts.drop a) w1 hr;unfold aC at Ba;have Bd:=Hd (show((aA p i).ins.map aO).length=(p.ns[i]?.getD default).ins.length by rw [List.length_map];rfl);generalize Cl:decide (ts.take a=(aA p i).ins.map aO)=bq at *;generalize Ag:dV (2,0,0) (ts.drop a)=ba at *;have Ap:=Hd (show(bq && ba)=false->oo=none from fun h=>by rw [Bt.o,Bu.o,h];rfl);have Ar:=Hd (show(bq && ba)=true->oo=some ((aA p i).outs.map aO) from fun h=>by rw [Bt.o,Bu.o,h];rfl);clear Bt Bu Cl Ag;have Aw:(m:Int)-(q:Int)=(a:Int):=by omega
 have Cq:decide ((i:Int)<0)=false:=Zy (by omega);have Bh:a<=m:=by omega
 have HM:=Hd hm;clear hm;unfold aA at Ay Bd Ap Ar;generalize p.ns[i]?.getD default=nd at *
 go_enter Tryz.func102,Tryz.ntmps102
 go_upto_region 1 with(fail)
 generalize Be:(w.alloc _).alloc _=w0;obtain⟨Bk,Bw,As,Aj⟩:=jQ Be;have Bi:=Hd Bk;have Cd:=Hd As;have Cf:=Hd Aj;have q0:=As w0 (Yg _ _) 0;have q1:=As w0 (Yg _ _) 1;have r2:=Aj w0 (Yg _ _) 2;simp only [Ya,Yb,Yc] at q0 q1 r2;rw [hN] at Bo;clear Be Bk Bw As Aj
 go_wp2_with fail
 refine(Bo.o w0 Bi.o).mono ?_;rintro e w1 ⟨rfl,Au⟩;have Bp:=Hd (aR Bi.o Au);have q1:=Cd.o w1 Au 1;have r1:=Cf.o w1 Au 1;simp only [Ya,Yb,Yc] at q1 r1;obtain⟨d0,d1,d2,d3,d4⟩:=HD.o w1 Bp.o;clear Au q0 r2 Bo Cd Cf HD
 go_upto_region 4 with(fail)
 refine lO (l:=[_,_,_,_,_,_,_,_,_,_,_,_,_,_]) 11 12 _ _ (d:=9) (tx:=23) (T:=53) (zc:=ndZ) (by kernel_rfl) rfl rfl (by kernel_rfl) rfl (by simp) (fun a W=>by rfl) rfl (by kernel_rfl) ?_
 repeat
  first
  | refine lW rfl ?_
  | (apply lV rfl rfl (by simp)
     case h1=>
      intro wb hb;have Ad:=cI hb;have l0:=fun d os=>Zr ((Ad.cell (Yi _ _ q1)).trans q1) d os;have l1:=fun d os=>Zr ((Ad.cell (Yi _ _ r1)).trans r1) d os;have m0:=fun d os=>Zr ((Ad.cell (Yi _ _ d0)).trans d0) d os;have m1:=fun d os=>Zr ((Ad.cell (Yi _ _ d1)).trans d1) d os;have m2:=fun d os=>Zr ((Ad.cell (Yi _ _ d2)).trans d2) d os;have m3:=fun d os=>Zr ((Ad.cell (Yi _ _ d3)).trans d3) d os;have m4:=fun d os=>Zr ((Ad.cell (Yi _ _ d4)).trans d4) d os;clear Ad
      go_big_quiet_step (fail)
      refine Xf ?_;simp only [List.getElem?_toArray,Zb,Yz];exact rfl
     simp only [Act.put,Yd,Ye,Yf])
 refine⟨#[.string nd.nm,.slice A1 nd.ins.length c1,.slice A2 nd.outs.length c2,.slice A3 nd.vars.length c3,.slice A4 nd.eqs.length c4],rfl,rfl,by simp [Value.oneCell'],fun W g hW hg hz=>?_⟩;have Aa:=Hd (aR Bp.o (cI hW));have k1:=uC hz 1;have k2:=uC hz 2;simp only [Ya,Yb,Yc] at k1 k2;clear hW hg hz q1 r1 d0 d1 d2 d3 d4
 show Exit.then _ _ .normal _ W
 simp only [Act.put,Yd,Ye,Yf]
 try rw [Aw]
 have Cp:a<=sc:=by omega
 have Ce:=Yi _ _ k1;have Ae:=Hd (show g<W.heap.size from Ce);clear Ce
 cases bq with
 | false=>
  have HO:=Hd (Ap.o rfl);clear Ap Ar Bb Ba Bc
  go_upto_region 5 with(fail)
  first
  | go_region_held_law (fun X=>X.cell? ⟨g,1,none⟩=some (.slice A1 nd.ins.length c1)) (first | exact k1 | exact Ao | exact Aq)
   ((first
     | (go_at_call 155;refine(Az.o _ (Aa.o.trans ((aY (Yg W.heap.size W) 1).mono Aa.o.size))).mono ?_;rintro e Wa ⟨T1,tc,rfl,Ah,Ag⟩;have Ab:=Hd ((aY (Yg W.heap.size W) 1).trans (Ag.mono (aY (Yg W.heap.size W) 1).size));have An:=Hd Ah;have Ao:=(Ab.o.cell (p:=⟨g,1,none⟩) Ae.o).trans k1;clear Ag Ah)
     | (go_at_call 154;refine(Ay.o T1 _ tc Wa (Aa.o.trans (Ab.o.mono Aa.o.size)) (by have:=An.o;rwa [Bd.o] at this)).mono ?_;rintro e Wb ⟨rfl,Ad⟩;have Af:=Hd (Ab.o.trans (Ad.mono Ab.o.size));have Aq:=(Af.o.cell (p:=⟨g,1,none⟩) Ae.o).trans k1;clear Ad)))
  | fail
  all_goals
   go_wp2_with fail
   try go_ret2
   exact⟨none,0,0,[],by rw [HO.o];rfl,fun r h=>(by rw [HO.o] at h;cases h),Aa.o.trans (Af.o.mono Aa.o.size)⟩
 | true=>
  have Bz:=Hd (show m=a->(ts.drop a).length=0 from fun h=>by rw [List.length_drop];omega)
  by_cases Ck:sc=a
  . have Ci:m=a:=by omega
    have Bn:=Hd (Bz.o Ci);clear Bz;obtain rfl:q=0:=by have:=HM.o;omega
    clear Bh Aw HM;subst Ck;subst Ci
    cases ba with
    | false=>
     have HO:=Hd (Ap.o rfl);clear Ap Ar Bb
     go_upto_region 5 with(fail)
     go_region_held3 (fun X=>X.cell? ⟨g,1,none⟩=some (.slice A1 nd.ins.length c1)) (first | exact k1 | exact Ao | exact Aq | exact Ax | exact Av)
      ((first
        | (go_at_call 155;refine(Az.o _ (Aa.o.trans ((aY (Yg W.heap.size W) 1).mono Aa.o.size))).mono ?_;rintro e Wa ⟨T1,tc,rfl,Ah,Ag⟩;have Ab:=Hd ((aY (Yg W.heap.size W) 1).trans (Ag.mono (aY (Yg W.heap.size W) 1).size));have An:=Hd Ah;have Ao:=(Ab.o.cell (p:=⟨g,1,none⟩) Ae.o).trans k1;clear Ag Ah)
        | (go_at_call 154;refine(Ay.o T1 _ tc Wa (Aa.o.trans (Ab.o.mono Aa.o.size)) (by have:=An.o;rwa [Bd.o] at this)).mono ?_;rintro e Wb ⟨rfl,Ad⟩;have Af:=Hd (Ab.o.trans (Ad.mono Ab.o.size));have Aq:=(Af.o.cell (p:=⟨g,1,none⟩) Ae.o).trans k1;clear Ad)
        | (go_at_call 119;refine(Bc.o 2 Wb).mono ?_;rintro e Wc ⟨rfl,Al⟩;have Ac:=Hd (Af.o.trans (Al.mono Af.o.size));have Ax:=(Ac.o.cell (p:=⟨g,1,none⟩) Ae.o).trans k1;clear Al)
        | (go_at_call 87;refine(Ba.o _ _ _ Wc (by first | exact(HS.o Wc (Aa.o.trans (Ac.o.mono Aa.o.size))).dropN Bh | exact(HS.o Wc (Aa.o.trans (Ac.o.mono Aa.o.size))).drop HM.o | exact aM.none_ Bn.o)).mono ?_;rintro e Wd ⟨rfl,Ak⟩;have Ai:=Hd (Ac.o.trans (Ak.mono Ac.o.size));have Av:=(Ai.o.cell (p:=⟨g,1,none⟩) Ae.o).trans k1;clear Ak)))
     go_wp2_with fail
     try go_ret2
     exact⟨none,0,0,[],by rw [HO.o];rfl,fun r h=>(by rw [HO.o] at h;cases h),Aa.o.trans (Ai.o.mono Aa.o.size)⟩
    | true=>
     have HO:=Hd (Ar.o rfl);clear Ap Ar
     go_upto_region 5 with(fail)
     go_region_held3 (fun X=>X.cell? ⟨g,1,none⟩=some (.slice A1 nd.ins.length c1)) (first | exact k1 | exact Ao | exact Aq | exact Ax | exact Av)
      ((first
        | (go_at_call 155;refine(Az.o _ (Aa.o.trans ((aY (Yg W.heap.size W) 1).mono Aa.o.size))).mono ?_;rintro e Wa ⟨T1,tc,rfl,Ah,Ag⟩;have Ab:=Hd ((aY (Yg W.heap.size W) 1).trans (Ag.mono (aY (Yg W.heap.size W) 1).size));have An:=Hd Ah;have Ao:=(Ab.o.cell (p:=⟨g,1,none⟩) Ae.o).trans k1;clear Ag Ah)
        | (go_at_call 154;refine(Ay.o T1 _ tc Wa (Aa.o.trans (Ab.o.mono Aa.o.size)) (by have:=An.o;rwa [Bd.o] at this)).mono ?_;rintro e Wb ⟨rfl,Ad⟩;have Af:=Hd (Ab.o.trans (Ad.mono Ab.o.size));have Aq:=(Af.o.cell (p:=⟨g,1,none⟩) Ae.o).trans k1;clear Ad)
        | (go_at_call 119;refine(Bc.o 2 Wb).mono ?_;rintro e Wc ⟨rfl,Al⟩;have Ac:=Hd (Af.o.trans (Al.mono Af.o.size));have Ax:=(Ac.o.cell (p:=⟨g,1,none⟩) Ae.o).trans k1;clear Al)
        | (go_at_call 87;refine(Ba.o _ _ _ Wc (by first | exact(HS.o Wc (Aa.o.trans (Ac.o.mono Aa.o.size))).dropN Bh | exact(HS.o Wc (Aa.o.trans (Ac.o.mono Aa.o.size))).drop HM.o | exact aM.none_ Bn.o)).mono ?_;rintro e Wd ⟨rfl,Ak⟩;have Ai:=Hd (Ac.o.trans (Ak.mono Ac.o.size));have Av:=(Ai.o.cell (p:=⟨g,1,none⟩) Ae.o).trans k1;clear Ak)))
     have k2:=(Ai.o.cell (p:=⟨g,2,none⟩) Ae.o).trans k2;have Bg:=Hd (Aa.o.trans (Ai.o.mono Aa.o.size))
     go_wp2_with fail
     refine(Bb.o Wd Bg.o).mono ?_;rintro e w9 ⟨T9,t9,rfl,Am,Bj⟩;have Ca:=Hd Am;have Cb:=Hd (aR Bg.o Bj);clear Am Bj
     go_wp2_with fail
     try go_ret2
     exact⟨T9,nd.outs.length,t9,nd.outs.map aO,by rw [HO.o];rfl,fun r h=>(by rw [HO.o] at h;injection h with h;exact⟨h.symm,by have:=Ca.o;rwa [List.length_map] at this⟩),Cb.o⟩
  . clear Bz;clear Aw
    cases ba with
    | false=>
     have HO:=Hd (Ap.o rfl);clear Ap Ar Bb
     go_upto_region 5 with(fail)
     go_region_held3 (fun X=>X.cell? ⟨g,1,none⟩=some (.slice A1 nd.ins.length c1)) (first | exact k1 | exact Ao | exact Aq | exact Ax | exact Av)
      ((first
        | (go_at_call 155;refine(Az.o _ (Aa.o.trans ((aY (Yg W.heap.size W) 1).mono Aa.o.size))).mono ?_;rintro e Wa ⟨T1,tc,rfl,Ah,Ag⟩;have Ab:=Hd ((aY (Yg W.heap.size W) 1).trans (Ag.mono (aY (Yg W.heap.size W) 1).size));have An:=Hd Ah;have Ao:=(Ab.o.cell (p:=⟨g,1,none⟩) Ae.o).trans k1;clear Ag Ah)
        | (go_at_call 154;refine(Ay.o T1 _ tc Wa (Aa.o.trans (Ab.o.mono Aa.o.size)) (by have:=An.o;rwa [Bd.o] at this)).mono ?_;rintro e Wb ⟨rfl,Ad⟩;have Af:=Hd (Ab.o.trans (Ad.mono Ab.o.size));have Aq:=(Af.o.cell (p:=⟨g,1,none⟩) Ae.o).trans k1;clear Ad)
        | (go_at_call 119;refine(Bc.o 2 Wb).mono ?_;rintro e Wc ⟨rfl,Al⟩;have Ac:=Hd (Af.o.trans (Al.mono Af.o.size));have Ax:=(Ac.o.cell (p:=⟨g,1,none⟩) Ae.o).trans k1;clear Al)
        | (go_at_call 87;refine(Ba.o _ _ _ Wc (by first | exact(HS.o Wc (Aa.o.trans (Ac.o.mono Aa.o.size))).dropN Bh | exact(HS.o Wc (Aa.o.trans (Ac.o.mono Aa.o.size))).drop HM.o | exact aM.none_ Bn.o)).mono ?_;rintro e Wd ⟨rfl,Ak⟩;have Ai:=Hd (Ac.o.trans (Ak.mono Ac.o.size));have Av:=(Ai.o.cell (p:=⟨g,1,none⟩) Ae.o).trans k1;clear Ak)))
     go_wp2_with fail
     try go_ret2
     exact⟨none,0,0,[],by rw [HO.o];rfl,fun r h=>(by rw [HO.o] at h;cases h),Aa.o.trans (Ai.o.mono Aa.o.size)⟩
    | true=>
     have HO:=Hd (Ar.o rfl);clear Ap Ar
     go_upto_region 5 with(fail)
     go_region_held3 (fun X=>X.cell? ⟨g,1,none⟩=some (.slice A1 nd.ins.length c1)) (first | exact k1 | exact Ao | exact Aq | exact Ax | exact Av)
      ((first
        | (go_at_call 155;refine(Az.o _ (Aa.o.trans ((aY (Yg W.heap.size W) 1).mono Aa.o.size))).mono ?_;rintro e Wa ⟨T1,tc,rfl,Ah,Ag⟩;have Ab:=Hd ((aY (Yg W.heap.size W) 1).trans (Ag.mono (aY (Yg W.heap.size W) 1).size));have An:=Hd Ah;have Ao:=(Ab.o.cell (p:=⟨g,1,none⟩) Ae.o).trans k1;clear Ag Ah)
        | (go_at_call 154;refine(Ay.o T1 _ tc Wa (Aa.o.trans (Ab.o.mono Aa.o.size)) (by have:=An.o;rwa [Bd.o] at this)).mono ?_;rintro e Wb ⟨rfl,Ad⟩;have Af:=Hd (Ab.o.trans (Ad.mono Ab.o.size));have Aq:=(Af.o.cell (p:=⟨g,1,none⟩) Ae.o).trans k1;clear Ad)
        | (go_at_call 119;refine(Bc.o 2 Wb).mono ?_;rintro e Wc ⟨rfl,Al⟩;have Ac:=Hd (Af.o.trans (Al.mono Af.o.size));have Ax:=(Ac.o.cell (p:=⟨g,1,none⟩) Ae.o).trans k1;clear Al)
        | (go_at_call 87;refine(Ba.o _ _ _ Wc (by first | exact(HS.o Wc (Aa.o.trans (Ac.o.mono Aa.o.size))).dropN Bh | exact(HS.o Wc (Aa.o.trans (Ac.o.mono Aa.o.size))).drop HM.o | exact aM.none_ Bn.o)).mono ?_;rintro e Wd ⟨rfl,Ak⟩;have Ai:=Hd (Ac.o.trans (Ak.mono Ac.o.size));have Av:=(Ai.o.cell (p:=⟨g,1,none⟩) Ae.o).trans k1;clear Ak)))
     have k2:=(Ai.o.cell (p:=⟨g,2,none⟩) Ae.o).trans k2;have Bg:=Hd (Aa.o.trans (Ai.o.mono Aa.o.size))
     go_wp2_with fail
     refine(Bb.o Wd Bg.o).mono ?_;rintro e w9 ⟨T9,t9,rfl,Am,Bj⟩;have Ca:=Hd Am;have Cb:=Hd (aR Bg.o Bj);clear Am Bj
     go_wp2_with fail
     try go_ret2
     exact⟨T9,nd.outs.length,t9,nd.outs.map aO,by rw [HO.o];rfl,fun r h=>(by rw [HO.o] at h;injection h with h;exact⟨h.symm,by have:=Ca.o;rwa [List.length_map] at this⟩),Cb.o⟩
end
end Go.Proofs.YtegjgiofmpolnaaGreat
