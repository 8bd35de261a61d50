/- Parts of the proof: TyT, BdB, VaC. Conditions: each theorem's own. -/
import Derived.Lib.ItoaLen
import Derived.Test.YtpedcgpcchbhpaaGreatDoorU04
namespace Go.Proofs.YtpedcgpcchbhpaaGreatDoor
set_option linter.unusedVariables false
set_option linter.unusedSimpArgs false
set_option maxRecDepth 100000
set_option maxHeartbeats 40000000
section
open Go.RowKit
def intT:ByteArray:=⟨#[105,110,116]⟩
def boolT:ByteArray:=⟨#[98,111,111,108]⟩
def digS(l:Int):ByteArray:=⟨#[(48+l).toNat.toUInt8]⟩
def baseE(es:List En) (k e:Int):ByteArray:=if k=1 then intT else if k=2 then boolT else nmE es e.toNat
def textE(es:List En) (k e l:Int):ByteArray:=
 if rightB es.length k e l=true then(if l=0 then baseE es k e else baseE es k e++(⟨#[91]⟩:ByteArray)++digS l++(⟨#[93]⟩:ByteArray)) else⟨#[]⟩
theorem ret_strT{a b:ByteArray}(h:a=b):Ending.returned (.string a)=.returned (.string b):=by rw [h]
theorem itoaSmall(l:Int) (w:World) (h0:0≤l) (h9:l<10):
 Calls Tryz.prog 145 #[.int .i64 l] w fun r w'=>r=.returned (.string (digS l))∧w=w':=by
 have h1:IntKind.i64.wrap (l+1)=l+1:=IntWalk.i64_in _ (by omega)
 go_enter Tryz.func145,Tryz.ntmps145
 go_wp2_with fail
 go_ret
 refine⟨ret_strT ?_,rfl⟩;rcases(show l=0∨l=1∨l=2∨l=3∨l=4∨l=5∨l=6∨l=7∨l=8∨l=9 by omega) with h | h | h | h | h | h | h | h | h | h <;> subst h <;> first | rfl | decide
theorem itoaAny(l:Int) (w:World) (h0:0≤l) (h9:l<10):
 Calls Tryz.prog 53 #[.int .i64 l] w fun r w'=>r=.returned (.string (digS l))∧w=w':=by
 have h99:l<100:=by omega
 have c1:Calls Tryz.prog 124 #[.int .i64 l,.int .i64 10] w fun r w'=>r=.returned (.string (digS l))∧w=w':=by
  go_enter Tryz.func124,Tryz.ntmps124
  go_wp2_with fail
  refine(itoaSmall l _ h0 h9).mono ?_;rintro e w1 ⟨rfl,rfl⟩
  go_wp2_with fail
  go_ret
  exact⟨rfl,rfl⟩
 have c2:Calls Tryz.prog 87 #[.int .i64 l] w fun r w'=>r=.returned (.string (digS l))∧w=w':=by
  go_enter Tryz.func87,Tryz.ntmps87
  go_wp2_with fail
  refine c1.mono ?_;rintro e w1 ⟨rfl,rfl⟩
  go_wp2_with fail
  go_ret
  exact⟨rfl,rfl⟩
 go_enter Tryz.func53,Tryz.ntmps53
 go_wp2_with fail
 refine c2.mono ?_;rintro e w1 ⟨rfl,rfl⟩
 go_wp2_with fail
 go_ret
 exact⟨rfl,rfl⟩
theorem right_cases{n:Nat}{k e l:Int}(h:rightB n k e l=true):(0≤l∧l≤8)∧(k=1∨k=2∨(k=3∧∃ m:Nat,e=m∧m<n)):=by
 simp only [rightB,Bool.and_eq_true,decide_eq_true_eq] at h;obtain⟨h1,h2⟩:=h;refine⟨h1,?_⟩
 split at h2
 · rename_i hk
   rcases hk with h | h
   · exact .inl h
   · exact .inr (.inl h)
 · simp at h2
   exact .inr (.inr ⟨h2.1,e.toNat,by omega,by omega⟩)
theorem tySingle(A:Option Addr) (n c:Nat) (es:List En) (k e l:Int) (w:World) (hE:RdE w A n es) (hr:rightB es.length k e l=true):
 Calls Tryz.prog 52 #[.slice A n c,tyV k e l] w fun r w'=>r=.returned (.string (baseE es k e))∧Below w.heap.size w w':=by
 unfold tyV;have HB:=Hd ((Below.refl w.heap.size w).alloc (Nat.le_refl _) (.cells #[.int .i64 k,.int .i64 e,.int .i64 l] 36));obtain⟨_,hk⟩:=right_cases hr;have hlen:=hE.len;have hmx:=hE.max;rcases hk with rfl | rfl | ⟨rfl,m,rfl,hm⟩
 · go_enter Tryz.func52,Tryz.ntmps52
   go_wp2_with fail
   go_ret
   exact⟨rfl,HB.out⟩
 · go_enter Tryz.func52,Tryz.ntmps52
   go_wp2_with fail
   go_ret
   exact⟨rfl,HB.out⟩
 · have hmn:m<n:=by omega
   obtain⟨b,off,rfl,hb,hc⟩:=(hE.alloc (.cells #[.int .i64 3,.int .i64 (m:Int),.int .i64 l] 36)).at_ hmn;obtain⟨hn0,_⟩:=hc m hmn;clear hc;have HX:=Hd (show nmE es m=baseE es 3 (m:Int) by simp [baseE]);generalize nmE es m=x at hn0 HX
   go_enter Tryz.func52,Tryz.ntmps52
   go_wp2_with fail
   go_ret
   exact⟨ret_strT HX.out,HB.out⟩
def EsShort(es:List En):Prop:=∀ i,i<es.length→(nmE es i).size≤100
theorem base_size{es:List En}{k e l:Int}(h:EsShort es) (hr:rightB es.length k e l=true):(baseE es k e).size≤100:=by
 obtain⟨_,hk⟩:=right_cases hr;rcases hk with rfl | rfl | ⟨rfl,m,rfl,hm⟩
 · show intT.size≤100
   decide
 · show boolT.size≤100
   decide
 · have:=h m hm
   simpa [baseE] using this
theorem dig_size(l:Int):(digS l).size=1:=rfl
section
variable {es:List En}{k e l:Int}
theorem text_no(h:rightB es.length k e l=false):textE es k e l=⟨#[]⟩:=by simp [textE,h]
theorem text_zero(h:rightB es.length k e 0=true):textE es k e 0=baseE es k e:=by simp [textE,h]
theorem text_lenT(h:rightB es.length k e l=true) (hl:¬ l=0):textE es k e l=baseE es k e++(⟨#[91]⟩:ByteArray)++digS l++(⟨#[93]⟩:ByteArray):=by simp [textE,h,hl]
end
theorem tyRight(A:Option Addr) (n c:Nat) (k e l:Int) (w:World) (hn:n≤9223372036854775807):
 Calls Tryz.prog 51 #[.slice A n c,tyV k e l] w fun r w'=>r=.returned (.bool (rightB n k e l))∧Below w.heap.size w w':=by
 unfold tyV;have HB:=Hd ((Below.refl w.heap.size w).alloc (Nat.le_refl _) (.cells #[.int .i64 k,.int .i64 e,.int .i64 l] 36))
 by_cases h1:l<0
 · go_enter Tryz.func51,Tryz.ntmps51
   go_wp2_with fail
   go_ret
   exact⟨ret_bool (right_len (.inl h1)).symm,HB.out⟩
 · by_cases h2:8<l
   · go_enter Tryz.func51,Tryz.ntmps51
     go_wp2_with fail
     go_ret
     exact⟨ret_bool (right_len (.inr h2)).symm,HB.out⟩
   · have hl:0≤l∧l≤8:=by omega
     have HL:=Hd hl;clear hl
     by_cases k1:k=1
     · have HE:=Hd (right_base (n:=n) (e:=e) HL.out (.inl k1));subst k1
       go_enter Tryz.func51,Tryz.ntmps51
       go_wp2_with fail
       go_ret
       exact⟨ret_bool (by rw [HE.out,Bool.eq_iff_iff];simp),HB.out⟩
     · by_cases k2:k=2
       · have HE:=Hd (right_base (n:=n) (e:=e) HL.out (.inr k2));subst k2
         go_enter Tryz.func51,Tryz.ntmps51
         go_wp2_with fail
         go_ret
         exact⟨ret_bool (by rw [HE.out,Bool.eq_iff_iff];simp),HB.out⟩
       · by_cases k3:k=3
         · have HE:=Hd (right_enum (n:=n) (e:=e) HL.out k3);subst k3
           by_cases e0:0≤e
           all_goals
            go_enter Tryz.func51,Tryz.ntmps51
            go_wp2_with fail
            go_ret
            exact⟨ret_bool (by rw [HE.out,Bool.eq_iff_iff];simp;omega),HB.out⟩
         · have HE:=Hd (right_kind (n:=n) (e:=e) (l:=l) (by omega) k3);have b1:(k==1)=false:=by simpa using k1
           have b2:(k==2)=false:=by simpa using k2
           have b3:(k==3)=false:=by simpa using k3
           go_enter Tryz.func51,Tryz.ntmps51
           go_wp2_with fail
           go_ret
           exact⟨ret_bool HE.out.symm,HB.out⟩
theorem tyText(A:Option Addr) (n c:Nat) (es:List En) (k e l:Int) (w:World) (hE:RdE w A n es) (hsm:EsShort es):
 Calls Tryz.prog 25 #[.slice A n c,tyV k e l] w fun r w'=>r=.returned (.string (textE es k e l))∧Below w.heap.size w w':=by
 have HB:=Hd ((Below.refl w.heap.size w).alloc (Nat.le_refl _) (.cells #[.int .i64 k,.int .i64 e,.int .i64 l] 36));have HEB:=Hd (hE.alloc (.cells #[.int .i64 k,.int .i64 e,.int .i64 l] 36));have hlen:=hE.len;have hmx:=hE.max;have HRT:=Hd fun(W:World)=>tyRight A n c k e l W hmx;rw [← hlen] at HRT
 cases hr:rightB es.length k e l with
 | false=>
  have HT:=Hd (text_no hr);rw [hr] at HRT;unfold tyV at HRT ⊢;clear hE
  go_enter Tryz.func25,Tryz.ntmps25
  go_wp2_with fail
  rw [← hlen];refine(HRT.out _).mono ?_;rintro r w1 ⟨rfl,hb1⟩;have HB1:=Hd (HB.out.trans (hb1.mono HB.out.size));clear hb1
  go_wp2_with fail
  go_ret
  exact⟨ret_strT HT.out.symm,HB1.out⟩
 | true=>
  rw [hr] at HRT;obtain⟨hl,_⟩:=right_cases hr;have HSG:=Hd fun(W:World) (h:RdE W A n es)=>tySingle A n c es k e l W h hr
  by_cases hl0:l=0
  · subst hl0;have HT:=Hd (text_zero hr);unfold tyV at HRT HSG ⊢;clear hE
    go_enter Tryz.func25,Tryz.ntmps25
    go_wp2_with fail
    rw [← hlen];refine(HRT.out _).mono ?_;rintro r w1 ⟨rfl,hb1⟩;have q0:=(hb1.cell (p:=⟨w.heap.size,0,none⟩) (by simp)).trans (by simp [go_sem]:(w.alloc (.cells #[.int .i64 k,.int .i64 e,.int .i64 0] 36)).cell? ⟨w.heap.size,0,none⟩=some (.int .i64 k));have q1:=(hb1.cell (p:=⟨w.heap.size,1,none⟩) (by simp)).trans (by simp [go_sem]:(w.alloc (.cells #[.int .i64 k,.int .i64 e,.int .i64 0] 36)).cell? ⟨w.heap.size,1,none⟩=some (.int .i64 e));have q2:=(hb1.cell (p:=⟨w.heap.size,2,none⟩) (by simp)).trans (by simp [go_sem]:(w.alloc (.cells #[.int .i64 k,.int .i64 e,.int .i64 0] 36)).cell? ⟨w.heap.size,2,none⟩=some (.int .i64 0));have HB1:=Hd (HB.out.trans (hb1.mono HB.out.size));have HE1:=Hd (HEB.out.below hb1);clear hb1
    go_wp2_with fail
    refine(HSG.out _ HE1.out).mono ?_;rintro r w2 ⟨rfl,hb2⟩;have HB2:=Hd (HB1.out.trans (hb2.mono HB1.out.size));clear hb2
    go_wp2_with fail
    go_ret
    exact⟨ret_strT HT.out.symm,HB2.out⟩
  · have hT:=text_lenT hr hl0;have hxz:=base_size hsm hr;have hdz:=dig_size l;generalize hbx:baseE es k e=x at HSG hT hxz;have hlb:(l==0)=false:=by simpa using hl0
    have HIT:=Hd fun(W:World)=>itoaAny l W hl.1 (by omega);generalize hdx:digS l=d at HIT hT hdz;have HT:=Hd hT;clear hT hbx hdx;have z1:(9223372036854775807<x.size+1)=False:=by rw [eq_iff_iff,iff_false];omega
    have z2:(9223372036854775807<x.size+1+1)=False:=by rw [eq_iff_iff,iff_false];omega
    have z3:(9223372036854775807<x.size+1+1+1)=False:=by rw [eq_iff_iff,iff_false];omega
    unfold tyV at HRT HSG ⊢;clear hE
    go_enter Tryz.func25,Tryz.ntmps25
    go_wp2_with fail
    rw [← hlen];refine(HRT.out _).mono ?_;rintro r w1 ⟨rfl,hb1⟩;have q0:=(hb1.cell (p:=⟨w.heap.size,0,none⟩) (by simp)).trans (by simp [go_sem]:(w.alloc (.cells #[.int .i64 k,.int .i64 e,.int .i64 l] 36)).cell? ⟨w.heap.size,0,none⟩=some (.int .i64 k));have q1:=(hb1.cell (p:=⟨w.heap.size,1,none⟩) (by simp)).trans (by simp [go_sem]:(w.alloc (.cells #[.int .i64 k,.int .i64 e,.int .i64 l] 36)).cell? ⟨w.heap.size,1,none⟩=some (.int .i64 e));have q2:=(hb1.cell (p:=⟨w.heap.size,2,none⟩) (by simp)).trans (by simp [go_sem]:(w.alloc (.cells #[.int .i64 k,.int .i64 e,.int .i64 l] 36)).cell? ⟨w.heap.size,2,none⟩=some (.int .i64 l));have hws:w.heap.size<w1.heap.size:=by have:=hb1.size;simp at this;omega
    have HB1:=Hd (HB.out.trans (hb1.mono HB.out.size));have HE1:=Hd (HEB.out.below hb1);clear hb1
    go_wp2_with fail
    go_region_held3 (fun W=>W.cell? ⟨w.heap.size,0,none⟩=some (.int .i64 k)∧W.cell? ⟨w.heap.size,1,none⟩=some (.int .i64 e)∧W.cell? ⟨w.heap.size,2,none⟩=some (.int .i64 l)) (first | exact⟨q0,q1,q2⟩ | exact⟨p0,p1,p2⟩)
     ((first
       | (go_at_call 52;refine(HSG.out _ (HE1.out.drewN _)).mono ?_;rintro r w2 ⟨rfl,hb2⟩;have p0:=(hb2.cell (p:=⟨w.heap.size,0,none⟩) hws).trans q0;have p1:=(hb2.cell (p:=⟨w.heap.size,1,none⟩) hws).trans q1;have p2:=(hb2.cell (p:=⟨w.heap.size,2,none⟩) hws).trans q2;have HB2:=Hd hb2)
       | (go_at_call 53;refine(HIT.out _).mono ?_;rintro r w3 ⟨rfl,rfl⟩)))
    have HB3:=Hd ((below_drewN HB1.out 1).trans (HB2.out.mono HB1.out.size))
    go_wp2_with fail
    go_ret
    exact⟨ret_strT HT.out.symm,HB3.out⟩
theorem run_digit{w:World}{A:Option Addr}{c:Nat}{l:Int}(h:Rd .u8 w A 1 c [48+l]) (h0:0≤l) (h9:l<10):
 (convert 54 9 (.slice A 1 c)).run Tryz.prog w=.ok (.string (digS l)) w:=by
 obtain⟨b,off,rfl,hb,hc⟩:=h.at_ (i:=0) (by omega);have:=run_convert_bytes_arg w _ _ Tryz.underlying54 Tryz.underlying5 b off 1 c [48+l] h.len (fun i hi=>by rw [hc i hi,List.getD_eq_getElem?_getD]) _ Tryz.underlying9;rw [this];rfl
theorem refTyText(A:Option Addr) (n c:Nat) (es:List En) (k e l:Int) (w:World) (hE:RdE w A n es) (hsm:EsShort es):
 Calls Tryz.prog 27 #[.slice A n c,tyV k e l] w fun r w'=>r=.returned (.string (textE es k e l))∧Below w.heap.size w w':=by
 have HB:=Hd ((Below.refl w.heap.size w).alloc (Nat.le_refl _) (.cells #[.int .i64 k,.int .i64 e,.int .i64 l] 36));have HEB:=Hd (hE.alloc (.cells #[.int .i64 k,.int .i64 e,.int .i64 l] 36));have hlen:=hE.len;have hmx:=hE.max;have HRT:=Hd fun(W:World)=>refTyRight A n c k e l W hmx;rw [← hlen] at HRT
 cases hr:rightB es.length k e l with
 | false=>
  have HT:=Hd (text_no hr);rw [hr] at HRT;unfold tyV at HRT ⊢;clear hE
  go_enter Tryz.func27,Tryz.ntmps27
  go_wp2_with fail
  rw [← hlen];refine(HRT.out _).mono ?_;rintro r w1 ⟨rfl,hb1⟩;have HB1:=Hd (HB.out.trans (hb1.mono HB.out.size));clear hb1
  go_wp2_with fail
  go_ret
  exact⟨ret_strT HT.out.symm,HB1.out⟩
 | true=>
  rw [hr] at HRT;obtain⟨hl,hk⟩:=right_cases hr;have hxz:=base_size hsm hr;have hT:textE es k e l=if l=0 then baseE es k e else baseE es k e++(⟨#[91]⟩:ByteArray)++digS l++(⟨#[93]⟩:ByteArray):=by simp only [textE,hr,if_true]
  have hdz:=dig_size l;have HCELL:=Hd fun(m:Nat) (he:e=m) (hm:m<n)=>(HEB.out.at_ hm);have HRUN:=Hd fun(W:World) (A:Option Addr) (c:Nat) (h:Rd .u8 W A 1 c [48+l])=>run_digit h hl.1 (by omega);have HLIT:=Hd fun(W:World) (T:TypeId)=>Rd.lit .u8 W T [48+l] 1 rfl (by omega) (by intro z hz;simp at hz;subst hz;simp [Lit.wf,IntKind.min,IntKind.max,IntKind.signed,IntKind.bits];omega) #[.int .u8 (48+l)] rfl;have hw1:IntKind.i64.wrap (48+l)=48+l:=IntWalk.i64_in _ (by omega);have hw2:IntKind.u8.wrap (48+l)=48+l:=by rw [IntKind.wrap_u8];omega
  generalize digS l=d at hT hdz HRUN;unfold tyV at HRT ⊢;clear hE;rcases hk with rfl | rfl | ⟨rfl,m,rfl,hm⟩
  · go_enter Tryz.func27,Tryz.ntmps27
    go_wp2_with fail
    rw [← hlen];refine(HRT.out _).mono ?_;rintro r w1 ⟨rfl,hb1⟩;have q0:=(hb1.cell (p:=⟨w.heap.size,0,none⟩) (by simp)).trans (by simp [go_sem]:(w.alloc (.cells #[.int .i64 1,.int .i64 e,.int .i64 l] 36)).cell? ⟨w.heap.size,0,none⟩=some (.int .i64 1));have q1:=(hb1.cell (p:=⟨w.heap.size,1,none⟩) (by simp)).trans (by simp [go_sem]:(w.alloc (.cells #[.int .i64 1,.int .i64 e,.int .i64 l] 36)).cell? ⟨w.heap.size,1,none⟩=some (.int .i64 e));have q2:=(hb1.cell (p:=⟨w.heap.size,2,none⟩) (by simp)).trans (by simp [go_sem]:(w.alloc (.cells #[.int .i64 1,.int .i64 e,.int .i64 l] 36)).cell? ⟨w.heap.size,2,none⟩=some (.int .i64 l));have hcv:=HRUN.out (w1.alloc (.cells #[.int .u8 (48+l)] 5)) _ _ (HLIT.out w1 _);have HB1:=Hd (HB.out.trans (hb1.mono HB.out.size));clear hb1
    by_cases hl0:0<l
    · go_wp2_with fail
      go_ret
      exact⟨ret_strT (by rw [hT,if_neg (by omega)];rfl),HB1.out.alloc HB1.out.size _⟩
    · obtain rfl:l=0:=by omega
      go_wp2_with fail
      go_ret
      exact⟨ret_strT (by rw [hT,if_pos trivial];rfl),HB1.out⟩
  · go_enter Tryz.func27,Tryz.ntmps27
    go_wp2_with fail
    rw [← hlen];refine(HRT.out _).mono ?_;rintro r w1 ⟨rfl,hb1⟩;have q0:=(hb1.cell (p:=⟨w.heap.size,0,none⟩) (by simp)).trans (by simp [go_sem]:(w.alloc (.cells #[.int .i64 2,.int .i64 e,.int .i64 l] 36)).cell? ⟨w.heap.size,0,none⟩=some (.int .i64 2));have q1:=(hb1.cell (p:=⟨w.heap.size,1,none⟩) (by simp)).trans (by simp [go_sem]:(w.alloc (.cells #[.int .i64 2,.int .i64 e,.int .i64 l] 36)).cell? ⟨w.heap.size,1,none⟩=some (.int .i64 e));have q2:=(hb1.cell (p:=⟨w.heap.size,2,none⟩) (by simp)).trans (by simp [go_sem]:(w.alloc (.cells #[.int .i64 2,.int .i64 e,.int .i64 l] 36)).cell? ⟨w.heap.size,2,none⟩=some (.int .i64 l));have hcv:=HRUN.out (w1.alloc (.cells #[.int .u8 (48+l)] 5)) _ _ (HLIT.out w1 _);have HB1:=Hd (HB.out.trans (hb1.mono HB.out.size));clear hb1
    by_cases hl0:0<l
    · go_wp2_with fail
      go_ret
      exact⟨ret_strT (by rw [hT,if_neg (by omega)];rfl),HB1.out.alloc HB1.out.size _⟩
    · obtain rfl:l=0:=by omega
      go_wp2_with fail
      go_ret
      exact⟨ret_strT (by rw [hT,if_pos trivial];rfl),HB1.out⟩
  · have hmn:m<n:=by omega
    obtain⟨b,off,rfl,hb,hc⟩:=HCELL.out m rfl hmn;obtain⟨hn0,_⟩:=hc m hmn;have hbx:baseE es 3 (m:Int)=nmE es m:=by simp [baseE]
    rw [hbx] at hT hxz;clear hc hbx;generalize nmE es m=x at hn0 hT hxz;have z1:(9223372036854775807<x.size+1)=False:=by rw [eq_iff_iff,iff_false];omega
    have z2:(9223372036854775807<x.size+1+1)=False:=by rw [eq_iff_iff,iff_false];omega
    have z3:(9223372036854775807<x.size+1+1+1)=False:=by rw [eq_iff_iff,iff_false];omega
    go_enter Tryz.func27,Tryz.ntmps27
    go_wp2_with fail
    rw [← hlen];refine(HRT.out _).mono ?_;rintro r w1 ⟨rfl,hb1⟩;have q0:=(hb1.cell (p:=⟨w.heap.size,0,none⟩) (by simp)).trans (by simp [go_sem]:(w.alloc (.cells #[.int .i64 3,.int .i64 (m:Int),.int .i64 l] 36)).cell? ⟨w.heap.size,0,none⟩=some (.int .i64 3));have q1:=(hb1.cell (p:=⟨w.heap.size,1,none⟩) (by simp)).trans (by simp [go_sem]:(w.alloc (.cells #[.int .i64 3,.int .i64 (m:Int),.int .i64 l] 36)).cell? ⟨w.heap.size,1,none⟩=some (.int .i64 (m:Int)));have q2:=(hb1.cell (p:=⟨w.heap.size,2,none⟩) (by simp)).trans (by simp [go_sem]:(w.alloc (.cells #[.int .i64 3,.int .i64 (m:Int),.int .i64 l] 36)).cell? ⟨w.heap.size,2,none⟩=some (.int .i64 l));have hn1:=(hb1.cell (p:=⟨b,off+m*2,none⟩) hb).trans hn0;have hcv:=HRUN.out (w1.alloc (.cells #[.int .u8 (48+l)] 5)) _ _ (HLIT.out w1 _);have HB1:=Hd (HB.out.trans (hb1.mono HB.out.size));clear hb1
    by_cases hl0:0<l
    · go_wp2_with fail
      go_ret
      exact⟨ret_strT (by rw [hT,if_neg (by omega)]),HB1.out.alloc HB1.out.size _⟩
    · obtain rfl:l=0:=by omega
      go_wp2_with fail
      go_ret
      exact⟨ret_strT (by rw [hT,if_pos trivial]),HB1.out⟩
end
section
open Go.RowKit
theorem bd_bytep:Tryz.prog.underlying 86=some (.pointer 5):=by kernel_rfl
theorem bd_one:Tryz.prog.cellsOf 5=1:=by kernel_rfl
theorem bdText(B b:Nat) (l:List UInt8) (w:World) (h:LnAt B b l w) (h0:l≠[]):
 Calls Tryz.prog 23 #[.pointer (some ⟨b,0,none⟩)] w fun e w'=>e=.returned (.string ⟨l.toArray⟩)∧Below B w w':=by
 obtain⟨p,hB,v,hbk,hown,hne⟩:=h.any;have hl0:l.length≠0:=by simpa using h0
 rw [Lib.byteCells_length] at hown
 obtain⟨g,cap,cur,rfl,hbg,hg,hnc,hcm,hcs,htake⟩:∃ g cap cur,v=.slice (some ⟨g,0,none⟩) l.length cap∧B≤g∧w.heap[g]?=some (.cells cur 5 (0,0))∧l.length≤cap∧cap≤maxLen∧cur.size=cap*1∧cur.toList.take (l.length*1)=Lib.byteCells l:=by
  rcases hown.2 with⟨_,hz⟩|⟨g,cap,cur,hv,r⟩
  · exact absurd hz hl0
  · exact⟨g,cap,cur,hv,r⟩
 have c1:w.drew.cell? ⟨b,1,none⟩=some (.slice (some ⟨g,0,none⟩) l.length cap):=by
  have:w.drew.heap[b]?=some (.cells #[p,.slice (some ⟨g,0,none⟩) l.length cap] 58 (0,0)):=hbk;rw [Lib.cell_of_heap this];rfl
 have hSD:(Builtin.unsafeSliceData_ #[54] 86 #[.slice (some ⟨g,0,none⟩) l.length cap]).run Tryz.prog w.drew=.ok (.pointer (some ⟨g,0,none⟩)) w.drew:=
  Lib.run_unsafeSliceData_row _ _ _ _ _ _ (by omega)
 have hUS:(Builtin.unsafeString_ #[86,3] 9 #[.pointer (some ⟨g,0,none⟩),.int .i64 l.length]).run Tryz.prog w.drew=.ok (.string ⟨l.toArray⟩) (w.drew.freeze ⟨g,0,none⟩ l.length):=by
  refine Lib.run_unsafeString_row w.drew 86 3 9 5 bd_bytep bd_one g cur.size (by have hg':w.drew.heap[g]?=some (.cells cur 5 (0,0)):=hg;simp [World.shape?,hg']) l h0 (by omega) (by unfold maxLen at hcm;omega) ?_;intro j x hx;have:=hown.cells (g:=g) rfl j (.int .u8 x.toNat) (by simp [Lib.byteCells,hx]);exact this
 go_enter Tryz.func23,Tryz.ntmps23
 go_wp2
 go_region
 all_goals (go_wp2;go_ret;exact⟨rfl,Lib.below_freeze (Below.drew (Below.refl B w)) (p:=⟨g,0,none⟩) hbg _⟩)
def flatB(ss:List ByteArray):List UInt8:=ss.flatMap fun s=>s.data.toList
theorem flat_snoc{ss:List ByteArray}{k:Nat}(h:k<ss.length):flatB (ss.take (k+1))=flatB (ss.take k)++(ss[k]?.getD ByteArray.empty).data.toList:=by
 unfold flatB;rw [List.take_add_one,List.getElem?_eq_getElem h,List.flatMap_append]
 simp
theorem flat_le(ss:List ByteArray) (k:Nat):(flatB (ss.take k)).length≤(flatB ss).length:=by
 have h:flatB ss=flatB (ss.take k)++flatB (ss.drop k):=by
  unfold flatB;rw [← List.flatMap_append,List.take_append_drop]
 rw [h,List.length_append];omega
theorem bdLine(B b g c:Nat) (l:List UInt8) (ss:List ByteArray) (fz:Nat × Nat) (w:World) (h:LnAt B b l w) (hg:w.heap[g]?=some (.cells (ss.map Value.string).toArray 9 fz)) (hgb:g≠b)
 (hlen:l.length+(flatB ss).length+1≤140737488355328) (hn:ss.length≤1000000):
 Calls Tryz.prog 47 #[.pointer (some ⟨b,0,none⟩),.slice (some ⟨g,0,none⟩) ss.length c] w fun e w'=>e=.returned (.tuple #[])∧LnAt B b (l++flatB ss++[10]) w'∧Keep B b w w':=by
 have HL:=Hd h
 have HG:=Hd fun(w1:World) (k:Keep B b w w1)=>(show w1.heap[g]?=some (.cells (ss.map Value.string).toArray 9 fz) from
  k.2 g _ hg (fun e=>hgb (Option.some.inj e)) (fun c fz e=>by injection e with _ e _;exact absurd e (by decide)))
 have HS:=Hd fun(k:Nat) (hk:k<ss.length)=>flat_snoc hk;have HLE:=Hd fun k=>flat_le ss k;have HLEN:=Hd hlen;have HT:=Hd (show ss.take ss.length=ss from List.take_length);have HCE:=Hd fun(k:Nat) (hk:k<ss.length)=>(show((ss.map Value.string).toArray)[k]?=some (.string (ss[k]?.getD ByteArray.empty)) by simp [List.getElem?_eq_getElem hk]);clear h hg hgb hlen;generalize hN:ss.length=n at *;clear hN
 go_enter Tryz.func47,Tryz.ntmps47
 go_wp2_with fail
 go_loopw [8] (fun i wr=>∃ k:Nat,k≤n∧i=.int .i64 k∧LnAt B b (l++flatB (ss.take k)) wr∧Keep B b w wr) (fun i _=>n-(intOf i).toNat)
 case atStart=>exact⟨0,Nat.zero_le _,rfl,by simpa [flatB] using HL.out,Keep.refl _ _ _⟩
 case round=>
  obtain⟨k,hk,rfl,hln,hkp⟩:=hrel;have HLN:=Hd hln;have HKP:=Hd hkp
  by_cases hlt:k<n
  · have d0:wr.cell? ⟨g,k,none⟩=some (.string (ss[k]?.getD ByteArray.empty)):=by rw [Lib.cell_of_heap (HG.out wr hkp)];exact HCE.out k hlt
    have HSN:=Hd (HS.out k hlt);have HL2:=Hd (HLE.out (k+1));clear hln hkp;generalize ss[k]?.getD ByteArray.empty=y at *
    have HC:=Hd (bdString B b _ y wr HLN.out (by
     have h1:=HL2.out;have h2:=HLEN.out;rw [HSN.out,List.length_append] at h1;rw [List.length_append];have:y.data.toList.length=y.size:=by simp
     omega))
    go_wp2_with fail
    refine HC.out.mono ?_;rintro e w2 ⟨rfl,h2,k2⟩;have H2:=Hd h2;have K2:=Hd (HKP.out.trans k2);clear h2 k2
    go_wp2_with fail
    go_roundw
    case rel=>exact⟨k+1,by omega,by go_num,by rw [HSN.out,← List.append_assoc];exact H2.out,K2.out⟩
    case measure=>simp [intOf];omega
  · obtain rfl:k=n:=by omega
    have HC:=Hd (bdByte B b _ 10 wr hln (by
     rw [HT.out,List.length_append];exact HLEN.out))
    clear hln hkp
    go_wp2_with fail
    refine HC.out.mono ?_;rintro e w2 ⟨rfl,h2,k2⟩;have H2:=Hd h2;have K2:=Hd (HKP.out.trans k2);clear h2 k2
    go_wp2_with fail
    go_end0
    exact⟨rfl,by rw [HT.out] at H2;exact H2.out,K2.out⟩
end
section
open Go.RowKit
theorem ret_strV{a b:ByteArray}(h:a=b):Ending.returned (.string a)=.returned (.string b):=by rw [h]
def DigR(U u:Nat) (s:List UInt8):Prop:=(s=[]∧u=U)∨(s≠[]∧Lib.decDigits U=(if u=0 then [] else Lib.decDigits u)++s)
theorem DigR.start(U:Nat):DigR U U []:=.inl ⟨rfl,rfl⟩
theorem decDigits_step(u:Nat):Lib.decDigits u=(if u / 10=0 then [] else Lib.decDigits (u / 10))++[UInt8.ofNat (48+u % 10)]:=by
 by_cases h:u<10
 · rw [Lib.decDigits_one h,if_pos (by omega),List.nil_append,Nat.mod_eq_of_lt h]
 · rw [Lib.decDigits,dif_neg h,if_neg (by omega)]
theorem DigR.step{U u:Nat}{s:List UInt8}(h:DigR U u s) (hu:0<u∨s=[]):DigR U (u / 10) (UInt8.ofNat (48+u % 10)::s):=by
 refine .inr ⟨by simp,?_⟩;rcases h with⟨rfl,rfl⟩|⟨hs,he⟩
 · exact decDigits_step u
 · have hu':¬ u=0:=by
    rcases hu with h | h
    · omega
    · exact absurd h hs
   rw [he,if_neg hu',decDigits_step u,List.append_assoc];rfl
theorem DigR.end_{U u:Nat}{s:List UInt8}(h:DigR U u s) (hu:u=0) (hs:s≠[]):s=Lib.decDigits U:=by
 rcases h with⟨h,_⟩|⟨_,he⟩
 · exact absurd h hs
 · rw [he,if_pos hu,List.nil_append]
theorem DigR.len{U u:Nat}{s:List UInt8}(h:DigR U u s) (hU:U<18446744073709551616):s.length≤20:=by
 rcases h with⟨rfl,_⟩|⟨_,he⟩
 · simp
 · have h1:=congrArg List.length he;rw [Lib.decDigits_length,List.length_append] at h1;have:=Lib.nDigits_le20 U hU;omega
theorem DigR.le{U u:Nat}{s:List UInt8}(h:DigR U u s):True:=trivial
def emptyN(v:Value):Nat:=match v with
 | .string s=>1-s.size
 | _=>0
def digM(a b:Value):Nat:=2*(intOf a).toNat+emptyN b
theorem run_byte{w:World}{A:Option Addr}{c:Nat}{l:Int}(h:Rd .u8 w A 1 c [l]):
 (convert 54 9 (.slice A 1 c)).run Tryz.prog w=.ok (.string ⟨#[l.toNat.toUInt8]⟩) w:=by
 obtain⟨b,off,rfl,hb,hc⟩:=h.at_ (i:=0) (by omega);have:=run_convert_bytes_arg w _ _ Tryz.underlying54 Tryz.underlying5 b off 1 c [l] h.len (fun i hi=>by rw [hc i hi,List.getD_eq_getElem?_getD]) _ Tryz.underlying9;rw [this];rfl
theorem dig_data(u:Nat) (s:ByteArray):((⟨#[UInt8.ofNat (48+u % 10)]⟩:ByteArray)++s).data.toList=UInt8.ofNat (48+u % 10)::s.data.toList:=by simp
theorem dig_round{w:World}{U u:Nat}{s:ByteArray}(h:DigR U u s.data.toList) (hu:0<u∨s.data.toList=[]):DigR U (u / 10) ((⟨#[UInt8.ofNat (48+u % 10)]⟩:ByteArray)++s).data.toList:=by
 rw [dig_data];exact h.step hu
theorem ba_ext{a b:ByteArray}(h:a.data.toList=b.data.toList):a=b:=ByteArray.ext (Array.ext' h)
theorem dig_neg{z:Int}{U:Nat}{s:ByteArray}(hz:z<0) (hU:U=z.natAbs) (h:s.data.toList=Lib.decDigits U):(⟨#[45]⟩:ByteArray)++s=⟨(Lib.itoa z).toArray⟩:=by
 refine ba_ext ?_;subst hU;unfold Lib.itoa;rw [if_pos hz]
 simp [h]
theorem dig_pos{z:Int}{U:Nat}{s:ByteArray}(hz:0≤z) (hU:U=z.natAbs) (h:s.data.toList=Lib.decDigits U):s=⟨(Lib.itoa z).toArray⟩:=by
 refine ba_ext ?_;unfold Lib.itoa;rw [if_neg (by omega),show z.toNat=U by omega]
 simp [h]
theorem byte_conv(u:Nat) (wr:World):
 (convert 54 9 (.slice (some ⟨wr.heap.size,0,none⟩) 1 1)).run Tryz.prog (wr.alloc (.cells #[.int .u8 (48+(u:Int) % 10)] 5))=.ok (.string ⟨#[UInt8.ofNat (48+u % 10)]⟩) (wr.alloc (.cells #[.int .u8 (48+(u:Int) % 10)] 5)):=by
 have:=run_byte (Rd.lit .u8 wr 5 [48+(u:Int) % 10] 1 rfl (by omega) (by intro z hz;simp at hz;subst hz;simp [Lit.wf,IntKind.min,IntKind.max,IntKind.signed,IntKind.bits];omega) #[.int .u8 (48+(u:Int) % 10)] rfl);rw [this];have e:((48+(u:Int) % 10).toNat.toUInt8)=UInt8.ofNat (48+u % 10):=congrArg UInt8.ofNat (by omega);rw [e]
theorem refDigits(z:Int) (h0:-9223372036854775808≤z) (h1:z≤9223372036854775807) (w:World):
 Calls Tryz.prog 130 #[.int .i64 z] w fun r w'=>r=.returned (.string ⟨(Lib.itoa z).toArray⟩)∧Below w.heap.size w w':=by
 obtain⟨U,hU,hU2⟩:∃ U:Nat,U=z.natAbs∧U<18446744073709551616:=⟨z.natAbs,rfl,by omega⟩;have HU:=Hd hU
 by_cases hz:z<0
 · have hw1:IntKind.u64.wrap z=z+18446744073709551616:=by rw [IntKind.wrap_u64];omega
   have hw2:IntKind.u64.wrap (-(z+18446744073709551616))=(U:Int):=by rw [IntKind.wrap_u64];omega
   clear hU
   go_enter Tryz.func130,Tryz.ntmps130
   go_wp2_with fail
   go_loopw [3,4] (fun a b wr=>∃ (u:Nat) (s:ByteArray),a=.int .u64 u∧b=.string s∧u≤U∧DigR U u s.data.toList∧Below w.heap.size w wr) (fun a b _=>digM a b)
   case atStart=>exact⟨U,⟨#[]⟩,rfl,rfl,Nat.le_refl _,DigR.start U,Below.refl _ _⟩
   case round=>
    obtain⟨u,s,rfl,rfl,hu,hd,hnx⟩:=hrel;have HD:=Hd hd;have HNX:=Hd hnx;have hsz:s.size≤20:=by have:=DigR.len hd hU2;simpa using this
    clear hd hnx;have hcv:=byte_conv u wr;have z1:(9223372036854775807<1+s.size)=False:=by rw [eq_iff_iff,iff_false];omega
    have z2:(9223372036854775807<s.size+1)=False:=by rw [eq_iff_iff,iff_false];omega
    have z3:(9223372036854775807<s.size+1+1)=False:=by rw [eq_iff_iff,iff_false];omega
    by_cases hu0:0<u
    · have HN:=Hd (dig_round (w:=w) HD.out (.inl hu0));have hds:(⟨#[UInt8.ofNat (48+u % 10)]⟩:ByteArray).size=1:=rfl;generalize (⟨#[UInt8.ofNat (48+u % 10)]⟩:ByteArray)=x at hcv HN hds
      go_wp2_with fail
      go_roundw
      case rel=>exact⟨u / 10,x++s,by go_num,rfl,by omega,HN.out,HNX.out.alloc HNX.out.size _⟩
      case measure=>simp [digM,intOf,emptyN];omega
    · obtain rfl:u=0:=by omega
      by_cases hs0:s.data.toList=[]
      · obtain rfl:s=⟨#[]⟩:=by cases s;simp_all
        have HN:=Hd (dig_round (w:=w) HD.out (.inr rfl));have hcv:(convert 54 9 (.slice (some ⟨wr.heap.size,0,none⟩) 1 1)).run Tryz.prog (wr.alloc (.cells #[.int .u8 48] 5))=.ok (.string ⟨#[48]⟩) (wr.alloc (.cells #[.int .u8 48] 5)):=byte_conv 0 wr
        go_wp2_with fail
        go_roundw
        case rel=>exact⟨0,(⟨#[48]⟩:ByteArray)++⟨#[]⟩,rfl,rfl,by omega,HN.out,HNX.out.alloc HNX.out.size _⟩
        case measure=>decide
      · have HE:=Hd (HD.out.end_ rfl hs0);have hse:(s.toList==([]:List UInt8))=false:=by rw [Lib.toList_data];simpa using hs0
        have hse2:s.toList.isEmpty=false:=by rw [Lib.toList_data];simpa using hs0
        go_wp2_with fail
        go_ret
        exact⟨ret_strV (dig_neg hz HU.out HE.out),HNX.out⟩
 · have hw1:IntKind.u64.wrap z=(U:Int):=by rw [IntKind.wrap_u64];omega
   clear hU
   go_enter Tryz.func130,Tryz.ntmps130
   go_wp2_with fail
   go_loopw [3,4] (fun a b wr=>∃ (u:Nat) (s:ByteArray),a=.int .u64 u∧b=.string s∧u≤U∧DigR U u s.data.toList∧Below w.heap.size w wr) (fun a b _=>digM a b)
   case atStart=>exact⟨U,⟨#[]⟩,rfl,rfl,Nat.le_refl _,DigR.start U,Below.refl _ _⟩
   case round=>
    obtain⟨u,s,rfl,rfl,hu,hd,hnx⟩:=hrel;have HD:=Hd hd;have HNX:=Hd hnx;have hsz:s.size≤20:=by have:=DigR.len hd hU2;simpa using this
    clear hd hnx;have hcv:=byte_conv u wr;have z1:(9223372036854775807<1+s.size)=False:=by rw [eq_iff_iff,iff_false];omega
    have z2:(9223372036854775807<s.size+1)=False:=by rw [eq_iff_iff,iff_false];omega
    have z3:(9223372036854775807<s.size+1+1)=False:=by rw [eq_iff_iff,iff_false];omega
    by_cases hu0:0<u
    · have HN:=Hd (dig_round (w:=w) HD.out (.inl hu0));have hds:(⟨#[UInt8.ofNat (48+u % 10)]⟩:ByteArray).size=1:=rfl;generalize (⟨#[UInt8.ofNat (48+u % 10)]⟩:ByteArray)=x at hcv HN hds
      go_wp2_with fail
      go_roundw
      case rel=>exact⟨u / 10,x++s,by go_num,rfl,by omega,HN.out,HNX.out.alloc HNX.out.size _⟩
      case measure=>simp [digM,intOf,emptyN];omega
    · obtain rfl:u=0:=by omega
      by_cases hs0:s.data.toList=[]
      · obtain rfl:s=⟨#[]⟩:=by cases s;simp_all
        have HN:=Hd (dig_round (w:=w) HD.out (.inr rfl));have hcv:(convert 54 9 (.slice (some ⟨wr.heap.size,0,none⟩) 1 1)).run Tryz.prog (wr.alloc (.cells #[.int .u8 48] 5))=.ok (.string ⟨#[48]⟩) (wr.alloc (.cells #[.int .u8 48] 5)):=byte_conv 0 wr
        go_wp2_with fail
        go_roundw
        case rel=>exact⟨0,(⟨#[48]⟩:ByteArray)++⟨#[]⟩,rfl,rfl,by omega,HN.out,HNX.out.alloc HNX.out.size _⟩
        case measure=>decide
      · have HE:=Hd (HD.out.end_ rfl hs0);have hse:(s.toList==([]:List UInt8))=false:=by rw [Lib.toList_data];simpa using hs0
        have hse2:s.toList.isEmpty=false:=by rw [Lib.toList_data];simpa using hs0
        go_wp2_with fail
        go_ret
        exact⟨ret_strV (dig_pos (by omega) HU.out HE.out),HNX.out⟩
end
end Go.Proofs.YtpedcgpcchbhpaaGreatDoor
