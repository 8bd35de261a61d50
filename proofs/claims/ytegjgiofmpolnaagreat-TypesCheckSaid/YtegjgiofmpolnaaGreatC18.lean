/- Parts of the proof: TpH. Conditions: each theorem's own. -/
import Derived.Test.YtegjgiofmpolnaaGreatC17
namespace Go.Proofs.YtegjgiofmpolnaaGreat
set_option linter.unusedVariables false
set_option linter.unusedSimpArgs false
set_option maxRecDepth 100000
set_option maxHeartbeats 40000000
section
open Go.RowKit Go.Sort Go.BigFrame
theorem F3.regrown{T:TypeId}{W:World}{g:Nat}{a b c:Int}(h:F3 T W g a b c) (d:Nat) (os:Array Obj):F3 T (grow (redrawn W d) os) g a b c:=h.below (Zs W d os)
theorem aRu(op:Int) (t:T3) (w:World):Calls Tryz.prog 126 #[.int .i64 op,.agg (aC t.1 t.2.1 t.2.2)] w fun r w'=>r=.returned (.tuple #[.agg (aC ((cX op t.1 t.2.1 t.2.2).getD 0) 0 0),.bool (nJ (cX op t.1 t.2.1 t.2.2)).isSome])/\Below w.heap.size w w' :=
 (aPl op t.1 t.2.1 t.2.2 w).mono fun r w' ⟨h,hb⟩=>⟨by rw [h];cases cX op t.1 t.2.1 t.2.2 <;> rfl,hb⟩
def sP(op:Int) (t u:T3):Option Int:=iF op (aV 1 t.1 t.2.1 t.2.2 && aV 1 u.1 u.2.1 u.2.2) (aV 2 t.1 t.2.1 t.2.2 && aV 2 u.1 u.2.1 u.2.2) (fA t.1 t.2.1 t.2.2 u.1 u.2.1 u.2.2)
theorem aPp(op:Int) (t u:T3) (w:World):Calls Tryz.prog 127 #[.int .i64 op,.agg (aC t.1 t.2.1 t.2.2),.agg (aC u.1 u.2.1 u.2.2)] w fun r w'=>r=.returned (.tuple #[.agg (aC ((sP op t u).getD 0) 0 0),.bool (nJ (sP op t u)).isSome])/\Below w.heap.size w w' :=
 (aM5 op t.1 t.2.1 t.2.2 u.1 u.2.1 u.2.2 w).mono fun r w' ⟨h,hb⟩=>⟨by rw [h];unfold sP;cases iF op _ _ _ <;> rfl,hb⟩
theorem aCi{o:Option Int}{t:T3}(h:nJ o=some t):t=(o.getD 0,0,0):=by
 cases o with
 | none=>cases h
 | some k=>exact(Option.some.inj h).symm
theorem aKh(x:Ex) (A:Option Addr) (ca:Nat) (B:Option Addr) (cb:Nat) (S:Option Addr) (m sc:Nat) (ts:List T3) (w:World) (hS:aM w S m ts) (hk:x.k=5) (hm:1<=m):
 Calls Tryz.prog 82 #[.agg (aE x A ca B cb),.slice S m sc] w (eV w (nJ (cX x.op (aB ts 0).1 (aB ts 0).2.1 (aB ts 0).2.2))):=by
 have HF:=Hd fun w0 h=>mW (w:=w) (w0:=w0) (x:=x) (A:=A) (ca:=ca) (B:=B) (cb:=cb) (T:=35) (U:=38) h;obtain⟨sb,so,rfl,Ae,Ah⟩:=hS.at_ (i:=0) (by omega);obtain⟨a0,a1,a2⟩:=Ah 0 (by omega);simp only [Nat.zero_mul,Nat.add_zero,Nat.one_mul] at a0 a1 a2;have Am:=hS.len;have An:=Hd fun w1 (hb:Below w.heap.size w w1)=>hS.below hb;have HC:=Hd fun w1=>aRu x.op (aB ts 0) w1;unfold aE at HF ⊢;rw [hk] at HF ⊢;clear hS Ah hk;generalize hu:aB ts 0=u at *;obtain⟨u0,u1,u2⟩:=u
 dsimp only at a0 a1 a2 HC
 unfold aC at HC
 go_enter Tryz.func82,Tryz.ntmps82
 go_upto_region 1 with(fail)
 generalize Af:(w.alloc _).alloc _=w0;obtain⟨hR,Aa,Ab,Ak⟩:=HF.o w0 Af;have HR:=Hd hR;have Ai:=Hd Ab;have q0:=Aa w0 (Yg _ _) 0;have q3:=Aa w0 (Yg _ _) 3;simp only [Ya,Yb,Yc] at q0 q3;have a0:=(Ab.cell (p:=⟨sb,so,none⟩) Ae).trans a0;have a1:=(Ab.cell (p:=⟨sb,so+1,none⟩) Ae).trans a1;have a2:=(Ab.cell (p:=⟨sb,so+2,none⟩) Ae).trans a2;have Ao:0<m:=by omega
 clear Af hR Aa Ab Ak HF hm
 go_upto_region 3 with(fail)
 have l0:=fun d os=>Zr q3 d os;have l1:=fun d os=>Zr a0 d os;have l2:=fun d os=>Zr a1 d os;have l3:=fun d os=>Zr a2 d os;have cA:=fun d os=>Zh (HC.o (grow (redrawn w0 d) os));refine iV (l1:=[_,_,_,_,_,_,_,_]) (l2:=[_,_]) (by kernel_rfl) (by kernel_rfl) (by kernel_rfl) (by kernel_rfl) (by kernel_rfl) ?_
 repeat (go_big_quiet_step (first | with_reducible exact cA _ _))
 refine Xf ?_;intro _ Aj;obtain⟨⟨dq,Ad⟩,Ac⟩:=Aj;subst Ac;have Ag:=Hd (HR.o.regrown dq Ad);have Al:=Hd (Ai.o.trans ((Zs w0 dq Ad).mono Ai.o.size));clear cA l0 l1 l2 l3;generalize grow (redrawn w0 dq) Ad=wq at *
 go_wp2_with (refine Zu rfl _ _ _ rfl (w.heap.size+1) _ rfl rfl _ _ Ag.o bM rfl (by simp [Value.oneCell']) ?_)
 exact Zt (aL (p:=4) (u:=5) rfl _ _ (w.heap.size+1) _ 0 0 rfl (Ag.o.set _ 0 0)) rfl ⟨_,0,0,rfl,fun t ht=>aCi ht,Xb Al.o (by omega) _⟩
theorem aKi(x:Ex) (A:Option Addr) (ca:Nat) (B:Option Addr) (cb:Nat) (S:Option Addr) (m sc:Nat) (ts:List T3) (w:World) (hS:aM w S m ts) (hk:x.k=6) (hm:2<=m):
 Calls Tryz.prog 82 #[.agg (aE x A ca B cb),.slice S m sc] w (eV w (nJ (sP x.op (aB ts 0) (aB ts 1)))):=by
 have HF:=Hd fun w0 h=>mW (w:=w) (w0:=w0) (x:=x) (A:=A) (ca:=ca) (B:=B) (cb:=cb) (T:=35) (U:=38) h;obtain⟨sb,so,rfl,Ac,Af⟩:=hS.at_ (i:=0) (by omega);obtain⟨a0,a1,a2⟩:=Af 0 (by omega);obtain⟨b0,b1,b2⟩:=Af 1 (by omega);simp only [Nat.zero_mul,Nat.add_zero,Nat.one_mul] at a0 a1 a2 b0 b1 b2;have Am:=hS.len;have An:=Hd fun w1 (hb:Below w.heap.size w w1)=>hS.below hb;have HC:=Hd fun w1=>aPp x.op (aB ts 0) (aB ts 1) w1;unfold aE at HF ⊢;rw [hk] at HF ⊢;clear hS Af hk;generalize aB ts 0=u at *;generalize aB ts 1=v at *;obtain⟨u0,u1,u2⟩:=u;obtain⟨v0,v1,v2⟩:=v
 dsimp only at a0 a1 a2 b0 b1 b2 HC
 unfold aC at HC;generalize sP x.op (u0,u1,u2) (v0,v1,v2)=o at *
 go_enter Tryz.func82,Tryz.ntmps82
 go_upto_region 1 with(fail)
 generalize Ag:(w.alloc _).alloc _=w0;obtain⟨hR,Aa,Ab,Ak⟩:=HF.o w0 Ag;have HR:=Hd hR;have Ai:=Hd Ab;have q0:=Aa w0 (Yg _ _) 0;have q3:=Aa w0 (Yg _ _) 3;simp only [Ya,Yb,Yc] at q0 q3;have a0:=(Ab.cell (p:=⟨sb,so,none⟩) Ac).trans a0;have a1:=(Ab.cell (p:=⟨sb,so+1,none⟩) Ac).trans a1;have a2:=(Ab.cell (p:=⟨sb,so+2,none⟩) Ac).trans a2;have b0:=(Ab.cell (p:=⟨sb,so+3,none⟩) Ac).trans b0;have b1:=(Ab.cell (p:=⟨sb,so+3+1,none⟩) Ac).trans b1;have b2:=(Ab.cell (p:=⟨sb,so+3+2,none⟩) Ac).trans b2;have Ap:0<m:=by omega
 have Ao:1<m:=by omega
 clear Ag hR Aa Ab Ak HF hm
 go_upto_region 5 with(fail)
 have l0:=fun d os=>Zr q3 d os;have l1:=fun d os=>Zr a0 d os;have l2:=fun d os=>Zr a1 d os;have l3:=fun d os=>Zr a2 d os;have l4:=fun d os=>Zr b0 d os;have l5:=fun d os=>Zr b1 d os;have l6:=fun d os=>Zr b2 d os;have cA:=fun d os=>Zh (HC.o (grow (redrawn w0 d) os));refine iV (l1:=[_,_,_,_,_,_,_,_,_,_,_]) (l2:=[_,_]) (by kernel_rfl) (by kernel_rfl) (by kernel_rfl) (by kernel_rfl) (by kernel_rfl) ?_
 repeat (go_big_quiet_step (first | with_reducible exact cA _ _))
 refine Xf ?_;intro _ Aj;obtain⟨⟨dq,Ae⟩,Ad⟩:=Aj;subst Ad;have Ah:=Hd (HR.o.regrown dq Ae);have Al:=Hd (Ai.o.trans ((Zs w0 dq Ae).mono Ai.o.size));clear cA l0 l1 l2 l3 l4 l5 l6;generalize grow (redrawn w0 dq) Ae=wq at *
 go_wp2_with (refine Zu rfl _ _ _ rfl (w.heap.size+1) _ rfl rfl _ _ Ah.o bM rfl (by simp [Value.oneCell']) ?_)
 exact Zt (aL (p:=4) (u:=5) rfl _ _ (w.heap.size+1) _ 0 0 rfl (Ah.o.set _ 0 0)) rfl ⟨_,0,0,rfl,fun t ht=>aCi ht,Xb Al.o (by omega) _⟩
end
end Go.Proofs.YtegjgiofmpolnaaGreat
