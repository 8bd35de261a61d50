/- Parts: PaO. Conditions: each theorem's own. -/
import Derived.Test.YtokiaaapgkdpmaaGreatDoorU14
namespace Go.Proofs.YtokiaaapgkdpmaaGreatDoor
set_option linter.unusedVariables false
set_option linter.unusedSimpArgs false
set_option maxRecDepth 100000
set_option maxHeartbeats 40000000
section
open Go.RowKit Go.Sort
section
variable {w:World}{b:Nat}{A:Option Addr}{n c:Nat}{all r:List Tk}{bad:Bool}{m:Nat}
def tr(B h:Nat)(w:World):World:=bl h (fr B w)
theorem tr_size{B h:Nat}{w:World}:(tr B h w).heap.size=w.heap.size:=by unfold tr;rw[bl_size,fr_size]
theorem tr_cell{B h:Nat}{w:World}{p:Addr}(h1:B≤p.block)(h2:p.block≠h):(tr B h w).cell? p=w.cell? p:=by
 unfold tr;rw[bl_cell h2,fr_cell h1]
theorem tr_some{B h:Nat}{w:World}{p:Addr}{v:Value}(k:(tr B h w).cell? p=some v):w.cell? p=some v∧B≤p.block∧p.block≠h:=by
 have h1:=bl_some k;obtain⟨h2,h3⟩:=fr_some h1;refine⟨h2,h3,fun e=>?_⟩;unfold tr World.cell? at k;rw[e,bl_at (k:=0)] at k
 by_cases hh:h<(fr B w).heap.size
 · rw[if_pos hh] at k
   split at k
   · rename_i cs0 el0 fz0 hq
     injection hq with hq;injection hq with hq _;subst hq
     simp at k
   · simp at k
 · rw[if_neg hh] at k
   cases k
theorem tr_up{B h B' h':Nat}{w w':World}(hs:w.heap.size≤w'.heap.size)(hk:∀ p v,B≤p.block→p.block≠h→w.cell? p=some v→B'≤p.block∧p.block≠h'∧w'.cell? p=some v){x:Ex}{A' B1:Option Addr}(hx:rdX (tr B h w) x A' B1):rdX (tr B' h' w') x A' B1:=
 rdX_up (by rw[tr_size,tr_size];exact hs) (fun p v hp=>by
  obtain⟨h1,h2,h3⟩:=tr_some hp;obtain⟨k1,k2,k3⟩:=hk p v h2 h3 h1;rw[tr_cell k1 k2];exact k3) x A' B1 hx
theorem tr_of{B h B':Nat}{w w':World}(hs:w.heap.size≤w'.heap.size)(hk:∀ p v,B≤p.block→w.cell? p=some v→B'≤p.block∧p.block≠h∧w'.cell? p=some v){x:Ex}{A' B1:Option Addr}(hx:rdX (fr B w) x A' B1):rdX (tr B' h w') x A' B1:=
 rdX_up (by rw[fr_size,tr_size];exact hs) (fun p v hp=>by
  obtain⟨h1,h2⟩:=fr_some hp;obtain⟨k1,k2,k3⟩:=hk p v h2 h1;rw[tr_cell k1 k2];exact k3) x A' B1 hx
theorem tr_fr{B h B':Nat}{w:World}(hb:B'≤B){x:Ex}{A' B1:Option Addr}(hx:rdX (tr B h w) x A' B1):rdX (fr B' w) x A' B1:=
 rdX_up (by rw[fr_size,tr_size];exact Nat.le_refl _) (fun p v hp=>by
  obtain⟨h1,h2,h3⟩:=tr_some hp;rw[fr_cell (by omega)];exact h1) x A' B1 hx
theorem Kp.tr{B h:Nat}{w w':World}(K:Kp B w w'){x:Ex}{A' B1:Option Addr}(hx:rdX (tr B h w) x A' B1):rdX (tr B h w') x A' B1:=
 tr_up K.1 (fun p v h1 h2 hv=>⟨h1,h2,K.2 p v h1 hv⟩) hx
theorem tr_set{B h:Nat}{w:World}{x:Ex}{A' B1:Option Addr}(cs:Array Value)(hx:rdX (tr B h w) x A' B1):rdX (tr B h (w.setRow h cs)) x A' B1:=
 tr_up (by rw[setRow_size];exact Nat.le_refl _) (fun p v h1 h2 hv=>⟨h1,h2,by rw[cell_setRow_other _ _ _ _ h2];exact hv⟩) hx
theorem SpecX.any{F:Nat}{g:Psr}(H:SpecX F g m)(h:PSt w b A n c all r false)(hr:r.length≤m):Calls Tryz.prog F #[.pointer (some ⟨b,0,none⟩)] w fun e w' =>
 ∃ e0 A' ca B' cb bd r1,e=.returned (.agg (exA e0 A' ca B' cb))∧PSt w' b A n c all r1 bd∧Below w.heap.size (bl b w) (bl b w')∧(bd=false∧g r=.ok e0 r1∧rdX (fr w.heap.size w') e0 A' B'∨bd=true∧g r=.bad r1):=
 (H w b A n c all r h hr).mono fun e w' k=>by
  cases hg:g r with
  | ok e0 r1=>
   rw[hg] at k;obtain⟨k1,k2,A',ca,B',cb,k3,k4⟩:=k;exact⟨e0,A',ca,B',cb,false,r1,k3,k2,k1,.inl ⟨rfl,rfl,k4⟩⟩
  | bad r1=>
   rw[hg] at k;obtain⟨k1,k2,y,A',ca,B',cb,k3⟩:=k;exact⟨y,A',ca,B',cb,true,r1,k3,k2,k1,.inr ⟨rfl,rfl⟩⟩
theorem SpecX.anyD{F:Nat}{g:Psr}(H:SpecX F g m)(h:PSt w b A n c all r false)(hr:r.length≤m):Calls Tryz.prog F #[.pointer (some ⟨b,0,none⟩)] w.drew fun e w' =>
 ∃ e0 A' ca B' cb bd r1,e=.returned (.agg (exA e0 A' ca B' cb))∧PSt w' b A n c all r1 bd∧Below w.heap.size (bl b w) (bl b w')∧(bd=false∧g r=.ok e0 r1∧rdX (fr w.heap.size w') e0 A' B'∨bd=true∧g r=.bad r1):=
 (H.any (PSt.drew h) hr).mono fun e w' ⟨e0,A',ca,B',cb,bd,r1,k1,k2,k3,k4⟩=>⟨e0,A',ca,B',cb,bd,r1,k1,k2,kb_undrew k3,k4⟩
theorem bin_tr{w w':World}{Bz h g:Nat}{op:Int}{x y:Ex}{A1 A2:Option Addr}{ca1 ca2:Nat}{B1 B2:Option Addr}{cb1 cb2:Nat}(K:Below w.heap.size w w')(h1:w.heap.size≤g)(h2:g<w'.heap.size)(h3:w'.heap[g]?=some (.cells (exA2 x A1 ca1 B1 cb1 y A2 ca2 B2 cb2) 26))
 (hz:Bz≤w.heap.size) (hh:h<w.heap.size) (tx:rdX (tr Bz h w) x A1 B1) (ty:rdX (tr Bz h w) y A2 B2):rdX (tr Bz h w') (binX op x y) none (some ⟨g,0,none⟩):=by
 have hk:Kp Bz w w':=⟨K.size,fun p v _ hv=>by rw[K.cell (World.block_lt_of_cell? w p hv)];exact hv⟩;refine bin_in (ca1:=ca1) (cb1:=cb1) (ca2:=ca2) (cb2:=cb2) (by rw[tr_size];exact h2) (fun j=>?_) (hk.tr tx) (hk.tr ty);rw[tr_cell (by show Bz≤g;omega) (by show g≠h;omega)];unfold World.cell?;rw[show w'.heap[(⟨g,j,none⟩:Addr).block]?=_ from h3];rfl
def placeOf(b:Nat)(w:World):Nat:=(intOf ((w.cell? ⟨b,1,none⟩).getD undef)).toNat
theorem PSt.place(h:PSt w b A n c all r bad):placeOf b w=n-r.length:=by
 unfold placeOf;rw[show w.cell? ⟨b,1,none⟩=some (.int .i64 ((n-r.length:Nat):Int)) from h.cell 1]
 simp[intOf]
def leftOf(b n:Nat)(w:World):Nat:=match w.cell? ⟨b,2,none⟩ with
 | some (.bool true)=>0
 | _=>n-placeOf b w
theorem left_bad(h:PSt w b A n c all r true):leftOf b n w=0:=by
 unfold leftOf;rw[show w.cell? ⟨b,2,none⟩=some (.bool true) from h.cell 2]
theorem left_good(h:PSt w b A n c all r false):leftOf b n w=r.length:=by
 unfold leftOf;rw[show w.cell? ⟨b,2,none⟩=some (.bool false) from h.cell 2,h.place];have:=h.len
 show n-(n-r.length)=r.length
 omega
theorem chain_stop{sub:Psr}{ops:List (Int × List UInt8)}{f:Nat}{e:Ex}(h:signP ops r=0):chainP sub ops f e r=.ok e r:=by
 cases f with
 | zero=>rfl
 | succ f=>simp[chainP,h]
theorem chain_ok{sub:Psr}{ops:List (Int × List UInt8)}{f:Nat}{e y:Ex}{r2:List Tk}(h:signP ops r≠0)(k:sub r.tail=.ok y r2):chainP sub ops (f+1) e r=chainP sub ops f (binX (signP ops r) e y) r2:=by
 simp[chainP,h,k]
theorem chain_bad{sub:Psr}{ops:List (Int × List UInt8)}{f:Nat}{e:Ex}{r2:List Tk}(h:signP ops r≠0)(k:sub r.tail=.bad r2):chainP sub ops (f+1) e r=.bad r2:=by
 simp[chainP,h,k]
def LevR(w:World)(b g h B0:Nat)(A:Option Addr)(n c m:Nat)(all:List Tk)(sub:Psr)(ops:List (Int × List UInt8))(g0:PR Ex)(wr:World):Prop:=
 ∃ (e:Ex) (A1:Option Addr) (ca1:Nat) (B1:Option Addr) (cb1:Nat) (ri:List Tk) (bd:Bool),RowX wr h e A1 ca1 B1 cb1∧RowX wr g zX none 0 none 0∧PSt wr b A n c all ri bd∧Below w.heap.size (bl b w) (bl b wr) ∧
  (bd=false∧(∃ f,g0=chainP sub ops f e ri∧ri.length+1≤f)∧ri.length≤m+1∧rdX (tr B0 h wr) e A1 B1∨bd=true∧g0=.bad ri)
theorem lev_step{w w3 w5 w6:World}{g h B0 f:Nat}{g0:PR Ex}{sub:Psr}{ops:List (Int × List UInt8)}{e y:Ex}{A1:Option Addr}{ca1:Nat}{B1:Option Addr}{cb1:Nat}{A2:Option Addr}{ca2:Nat}{B2:Option Addr}{cb2:Nat}{ri r2:List Tk}{bd:Bool}{g6:Nat}
 (hsub:Less sub) (hbe:Below w.heap.size (bl b w) (bl b w5)) (hh:RowX w5 h e A1 ca1 B1 cb1) (hg:RowX w5 g zX none 0 none 0) (hp:PSt w5 b A n c all r2 bd) (K:Below w3.heap.size (bl b w3) (bl b w5)) (t1:rdX (tr B0 h w3) e A1 B1)
 (hB:B0≤w3.heap.size) (hh3:h<w3.heap.size) (hhb:h≠b) (hgh:g≠h) (hbB:b<B0) (hwh:w.heap.size≤h) (hA:∀ b0 off,A=some ⟨b0,off,none⟩→b0<w.heap.size)
 (hch:g0=chainP sub ops f e ri) (hf:ri.length+1≤f) (hpos:1≤ri.length) (hm:ri.length≤m+1) (hs:signP ops ri≠0)
 (ht:bd=false∧sub ri.tail=.ok y r2∧rdX (fr w3.heap.size w5) y A2 B2∨bd=true∧sub ri.tail=.bad r2)
 (hb6:Below w5.heap.size w5 w6) (q1:w5.heap.size≤g6) (q2:g6<w6.heap.size) (q3:w6.heap[g6]?=some (.cells (exA2 e A1 ca1 B1 cb1 y A2 ca2 B2 cb2) 26)):
 LevR w b g h B0 A n c m all sub ops g0 (w6.setRow h (exA (binX (signP ops ri) e y) none 0 (some ⟨g6,0,none⟩) 2))∧leftOf b n (w6.setRow h (exA (binX (signP ops ri) e y) none 0 (some ⟨g6,0,none⟩) 2))<ri.length:=by
 have hs5:=kb_size K;have up:∀ {k:Nat}{x:Ex}{Ax:Option Addr}{cax:Nat}{Bx:Option Addr}{cbx:Nat},RowX w5 k x Ax cax Bx cbx→RowX w6 k x Ax cax Bx cbx:=fun hk=>(hb6.block _ hk.lt).trans hk;have p6:PSt (w6.setRow h (exA (binX (signP ops ri) e y) none 0 (some ⟨g6,0,none⟩) 2)) b A n c all r2 bd:=(hp.below hb6).setRow hhb (fun b0 off e1=>by have:=hA b0 off e1;omega) _;have b6:Below w.heap.size (bl b w) (bl b (w6.setRow h (exA (binX (signP ops ri) e y) none 0 (some ⟨g6,0,none⟩) 2))):=kb_setRow (kb_trans hbe (bl_of hb6)) hhb hwh _;obtain⟨f,rfl⟩:∃ f',f=f'+1:=⟨f-1,by omega⟩;rcases ht with⟨rfl,hy,ty⟩|⟨rfl,hy⟩
 · have hl:=hsub _ _ _ hy;have hl2:ri.tail.length=ri.length-1:=by simp
   refine⟨⟨_,_,_,_,_,r2,false,(up hh).set,(up hg).other hgh _,p6,b6,.inl ⟨rfl,⟨f,hch.trans (chain_ok hs hy),by omega⟩,by omega,?_⟩⟩,by rw[left_good p6];omega⟩;refine tr_set _ (bin_tr hb6 q1 q2 q3 (by omega) (by omega) ((Kp.of_kb K hbB).tr t1) (tr_of (Nat.le_refl _) (fun p v h1 h2=>⟨by omega,by omega,h2⟩) ty))
 · exact⟨⟨_,_,_,_,_,r2,true,(up hh).set,(up hg).other hgh _,p6,b6,.inr ⟨rfl,hch.trans (chain_bad hs hy)⟩⟩,by rw[left_bad p6];omega⟩
theorem sg_prod(h:PSt w b A n c all r bad):SgAt ((w.alloc (.cells #[.int .i64 5,.int .i64 6,.int .i64 7] 3)).alloc (.cells #[.string ⟨#[42]⟩,.string ⟨#[47]⟩,.string ⟨#[109,111,100]⟩] 9)) b w.heap.size (w.heap.size+1) [(5,⟨#[42]⟩),(6,⟨#[47]⟩),(7,⟨#[109,111,100]⟩)]∧PSt ((w.alloc (.cells #[.int .i64 5,.int .i64 6,.int .i64 7] 3)).alloc (.cells #[.string ⟨#[42]⟩,.string ⟨#[47]⟩,.string ⟨#[109,111,100]⟩] 9)) b A n c all r bad ∧
 Below w.heap.size w ((w.alloc (.cells #[.int .i64 5,.int .i64 6,.int .i64 7] 3)).alloc (.cells #[.string ⟨#[42]⟩,.string ⟨#[47]⟩,.string ⟨#[109,111,100]⟩] 9)):=by
 have hlt:=h.lt;have hb:Below w.heap.size w ((w.alloc (.cells #[.int .i64 5,.int .i64 6,.int .i64 7] 3)).alloc (.cells #[.string ⟨#[42]⟩,.string ⟨#[47]⟩,.string ⟨#[109,111,100]⟩] 9)):=((Below.refl _ _).alloc (Nat.le_refl _) _).alloc (by simp) _;refine⟨⟨fun i hi=>?_,fun i hi=>?_⟩,h.below hb,hb⟩
 · rw[bl_cell (by show w.heap.size≠b;omega),World.cell?_alloc_lt _ _ _ (by simp),World.cell?_alloc_new]
   match i,hi with
   | 0,_ | 1,_ | 2,_=>rfl
 · rw[bl_cell (by show w.heap.size+1≠b;omega)];have:=World.cell?_alloc_new (w.alloc (.cells #[.int .i64 5,.int .i64 6,.int .i64 7] 3)) #[.string ⟨#[42]⟩,.string ⟨#[47]⟩,.string ⟨#[109,111,100]⟩] 9 i;rw[World.size_alloc] at this;rw[this]
   match i,hi with
   | 0,_ | 1,_ | 2,_=>rfl
theorem prProd(P:Ps)(HS:SpecX 169 (unP P) (m+1))(hle:Less (unP P)):SpecX 166 (prodP P) (m+1):=by
 intro w b A n c all r h hm;have hA:=h.home;have hlt:=h.lt;have HM:=Hd (show prodP P r=((unP P) r).bind fun e r=>chainP (unP P) opsProd (r.length+1) e r from rfl)
 go_enter Tryz.func166,Tryz.ntmps166
 go_upto_region 1 with(fail)
 generalize hw1:w.alloc _=w1;obtain⟨hP1,hR1,hB1,hgb,hg1⟩:=res_box h hw1;have HP1:=Hd hP1;have HR1:=Hd hR1;have HB1:=Hd hB1;clear hP1 hR1 hB1 hw1
 go_wp2_with fail
 refine(SpecX.any HS HP1.out hm).mono ?_;rintro e w2 ⟨e0,A2,ca2,B2,cb2,bd,r1,rfl,hP,hB,hT⟩;have HP2:=Hd hP;have HB2:=Hd (kb_trans HB1.out hB);have HR2:=Hd (HR1.out.kb hgb hB);have HT2:=Hd hT;have hs2:=kb_size hB;clear hP hB hT;unfold exA
 go_wp2_with fail
 have h0:LevR w b w.heap.size w2.heap.size w1.heap.size A n c m all (unP P) opsProd (prodP P r) (w2.alloc (.cells (exA e0 A2 ca2 B2 cb2) 26)):=by
  have hb0:Below w2.heap.size w2 (w2.alloc (.cells (exA e0 A2 ca2 B2 cb2) 26)):=(Below.refl _ _).alloc (Nat.le_refl _) _;refine⟨e0,A2,ca2,B2,cb2,r1,bd,heap_alloc_new _ _,HR2.out.alloc _,HP2.out.alloc _,kb_trans HB2.out (bl_of hb0),?_⟩;rcases HT2.out with⟨h1,h2,h3⟩|⟨h1,h2⟩
  · have hl:=hle _ _ _ h2;refine .inl ⟨h1,⟨r1.length+1,?_,Nat.le_refl _⟩,by omega,?_⟩
    · rw[HM.out,h2];rfl
    · exact tr_of (by simp) (fun p v q1 q2=>⟨q1,by have:=World.block_lt_of_cell? w2 p q2;omega,by rw[World.cell?_alloc_lt _ _ _ (World.block_lt_of_cell? w2 p q2)];exact q2⟩) h3
  · refine .inr ⟨h1,?_⟩;rw[HM.out,h2];rfl
 have H0:=Hd h0;have hh2:w1.heap.size≤w2.heap.size:=hs2;have hbB:b<w1.heap.size:=by omega
 have HX:=Hd (show w.heap.size≤w2.heap.size∧w2.heap.size≠b∧w.heap.size≠w2.heap.size from⟨by omega,by omega,by omega⟩);clear h0 HT2 HR2 HP2 HB2;generalize hhb:w2.heap.size=hb at *
 go_loopw [7] (fun _ wr=>LevR w b w.heap.size hb w1.heap.size A n c m all (unP P) opsProd (prodP P r) wr) (fun _ wr=>leftOf b n wr)
 case atStart=>exact H0.out
 case round=>
  obtain⟨e,A1,ca1,B1,cb1,ri,bd,hE,hR,hP,hB,hT⟩:=hrel;have HE:=Hd hE;have HR:=Hd hR;have HP:=Hd hP;have HB:=Hd hB;have HT:=Hd hT;have hb1:hb<wr.heap.size:=hE.lt;have p2:wr.cell? ⟨b,2,none⟩=some (.bool bd):=hP.cell 2;clear hE hR hP hB hT
  cases bd with
  | true=>
   go_wp2_with (first | (refine wpList_load_row rfl _ _ rfl (hb) rfl _ _ _ _ (HE.out) Tryz.underlying26 rfl ex_info ?_) | (refine wpList_store_row rfl _ _ _ rfl (w.heap.size) _ rfl rfl _ _ (HR.out) ex_info rfl (by simp[exA,Value.oneCell']) ?_))
   obtain⟨f1,f2,f3⟩:=(fin_same (x:=e) (A1:=A1) (ca1:=ca1) (B1:=B1) (cb1:=cb1) HB.out HP.out HR.out hgb (Nat.le_refl _) hA);rw[(HT.out.resolve_left (by rintro ⟨h,_⟩;cases h)).2];exact bodyPost_ret (res_ex rfl _ _ (w.heap.size) _ rfl rfl f3) rfl ⟨f1,f2,_,_,_,_,_,rfl⟩
  | false=>
   obtain⟨_,⟨f,hch,hf⟩,hmi,ht⟩:=HT.out.resolve_right (by rintro ⟨h,_⟩;cases h);have HCH:=Hd hch;have HTR:=Hd ht;have hpos:=HP.out.pos;have HL:=Hd (left_good HP.out);clear hch ht HT;obtain⟨sg1,sg2,sg3⟩:=sg_prod HP.out;have HSG:=Hd (prSign [(5,⟨#[42]⟩),(6,⟨#[47]⟩),(7,⟨#[109,111,100]⟩)] _ _ 3 3 sg2 (by simp) (by simp) sg1);have HP3:=Hd sg2;have HB3:=Hd sg3;clear sg1 sg2 sg3;have hz:zsL [(5,⟨#[42]⟩),(6,⟨#[47]⟩),(7,⟨#[109,111,100]⟩)]=opsProd:=rfl;rw[hz] at HSG;clear hz
   go_wp2_with fail
   refine HSG.out.mono ?_;rintro x w3 ⟨hx,hB3⟩;clear HSG;have K3:=kb_trans (bl_of (b:=b) HB3.out) hB3;have HB3':=Hd (kb_trans HB.out K3);have HE3:=Hd (HE.out.kb HX.out.2.1 K3);have HR3:=Hd (HR.out.kb hgb K3);have HT3:=Hd ((Kp.of_kb K3 hbB).tr HTR.out);have hs3:=kb_size K3;clear hB3 K3 HB3 HP3 HTR HP HE HR HB;rcases hx with⟨hs,rfl,hP⟩|⟨_,hs,rfl,_,hP⟩
   · have hs0:=hs.resolve_left (by decide);have HP3:=Hd hP;have HS0:=Hd hs0;clear hs hs0 hP
     go_wp2_with (first | (refine wpList_load_row rfl _ _ rfl (hb) rfl _ _ _ _ (HE3.out) Tryz.underlying26 rfl ex_info ?_) | (refine wpList_store_row rfl _ _ _ rfl (w.heap.size) _ rfl rfl _ _ (HR3.out) ex_info rfl (by simp[exA,Value.oneCell']) ?_))
     obtain⟨f1,f2,f3⟩:=(fin_same (x:=e) (A1:=A1) (ca1:=ca1) (B1:=B1) (cb1:=cb1) HB3'.out HP3.out HR3.out hgb (Nat.le_refl _) hA);rw[HCH.out,chain_stop HS0.out];exact bodyPost_ret (res_ex rfl _ _ (w.heap.size) _ rfl rfl f3) rfl ⟨f1,f2,_,_,_,_,rfl,tree_down ((Kp.setRow (B:=w1.heap.size) _ _ (by omega)).tree (tr_fr (Nat.le_refl _) HT3.out)) (show w.heap.size≤w1.heap.size by omega)⟩
   · have HP3:=Hd hP;have HO:=Hd (show signP opsProd ri≠0 from hs);generalize hop:signP opsProd ri=op at hs ⊢;have HOP:=Hd hop;clear hP hop;have hl1:ri.tail.length=ri.length-1:=by simp
     have hlr:ri.tail.length≤m+1:=by omega
     have HF:=Hd (SpecX.anyD HS HP3.out hlr);obtain⟨q0,q1,q2,q3,q4,q5⟩:=HE3.out.cells
     go_wp2_with fail
     go_region_with (first | (go_at_call 169;refine HF.out.mono ?_;rintro x w5 ⟨y,A5,ca5,B5,cb5,bd5,r5,rfl,hP,hB,hT⟩;have HP5:=Hd hP;have K5:=Hd hB;have HE5:=Hd (HE3.out.kb HX.out.2.1 hB);have HR5:=Hd (HR3.out.kb hgb hB);have HT5:=Hd hT;have hs5:=kb_size hB;clear hP hB hT;obtain⟨d0,d1,d2,d3,d4,d5⟩:=HE5.out.cells;unfold exA) | (go_at_call 125;(refine(prBinC op e y A1 ca1 B1 cb1 A5 ca5 B5 cb5 w5).mono ?_;rintro x w6 ⟨g6,rfl,hb6,k1,k2,k3⟩;have HB6:=Hd hb6;have HE6:=Hd (show RowX w6 hb e A1 ca1 B1 cb1 from(hb6.block _ HE5.out.lt).trans HE5.out);have HG6:=Hd (And.intro k1 (And.intro k2 k3));clear hb6 k1 k2 k3;have hl6:=HE6.out.lt;obtain⟨z0,z1,z2,z3,z4,z5⟩:=HE6.out.cells;have f0:=HE6.out.fz 0;have f1:=HE6.out.fz 1;have f2:=HE6.out.fz 2;have f3:=HE6.out.fz 3;have f4:=HE6.out.fz 4;have f5:=HE6.out.fz 5;unfold exA)))
     all_goals (
      have hst:=lev_step hle (kb_trans HB3'.out K5.out) HE5.out HR5.out HP5.out K5.out HT3.out (by omega) (by omega) HX.out.2.1 HX.out.2.2 hbB HX.out.1 hA HCH.out hf hpos hmi HO.out HT5.out HB6.out HG6.out.1 HG6.out.2.1 HG6.out.2.2;rw[HOP.out] at hst;have hsx:=six_set HE6.out (binX op e y) none 0 (some ⟨g6,0,none⟩) 2;rw[hsx];clear hsx;have HST:=Hd hst;clear hst q0 q1 q2 q3 q4 q5 d0 d1 d2 d3 d4 d5 z0 z1 z2 z3 z4 z5 f0 f1 f2 f3 f4 f5;generalize w6.setRow hb _=W at *
      go_roundw
      case rel=>first | exact HST.out.1 | ((repeat apply Exists.intro);exact⟨HST.out.1,rfl⟩)
      case measure=>(rw[HL.out];exact HST.out.2))
theorem sg_sum(h:PSt w b A n c all r bad):SgAt ((w.alloc (.cells #[.int .i64 3,.int .i64 4] 3)).alloc (.cells #[.string ⟨#[43]⟩,.string ⟨#[45]⟩] 9)) b w.heap.size (w.heap.size+1) [(3,⟨#[43]⟩),(4,⟨#[45]⟩)]∧PSt ((w.alloc (.cells #[.int .i64 3,.int .i64 4] 3)).alloc (.cells #[.string ⟨#[43]⟩,.string ⟨#[45]⟩] 9)) b A n c all r bad ∧
 Below w.heap.size w ((w.alloc (.cells #[.int .i64 3,.int .i64 4] 3)).alloc (.cells #[.string ⟨#[43]⟩,.string ⟨#[45]⟩] 9)):=by
 have hlt:=h.lt;have hb:Below w.heap.size w ((w.alloc (.cells #[.int .i64 3,.int .i64 4] 3)).alloc (.cells #[.string ⟨#[43]⟩,.string ⟨#[45]⟩] 9)):=((Below.refl _ _).alloc (Nat.le_refl _) _).alloc (by simp) _;refine⟨⟨fun i hi=>?_,fun i hi=>?_⟩,h.below hb,hb⟩
 · rw[bl_cell (by show w.heap.size≠b;omega),World.cell?_alloc_lt _ _ _ (by simp),World.cell?_alloc_new]
   match i,hi with
   | 0,_ | 1,_=>rfl
 · rw[bl_cell (by show w.heap.size+1≠b;omega)];have:=World.cell?_alloc_new (w.alloc (.cells #[.int .i64 3,.int .i64 4] 3)) #[.string ⟨#[43]⟩,.string ⟨#[45]⟩] 9 i;rw[World.size_alloc] at this;rw[this]
   match i,hi with
   | 0,_ | 1,_=>rfl
theorem prSum(P:Ps)(HS:SpecX 166 (prodP P) (m+1))(hle:Less (prodP P)):SpecX 155 (sumP P) (m+1):=by
 intro w b A n c all r h hm;have hA:=h.home;have hlt:=h.lt;have HM:=Hd (show sumP P r=((prodP P) r).bind fun e r=>chainP (prodP P) opsSum (r.length+1) e r from rfl)
 go_enter Tryz.func155,Tryz.ntmps155
 go_upto_region 1 with(fail)
 generalize hw1:w.alloc _=w1;obtain⟨hP1,hR1,hB1,hgb,hg1⟩:=res_box h hw1;have HP1:=Hd hP1;have HR1:=Hd hR1;have HB1:=Hd hB1;clear hP1 hR1 hB1 hw1
 go_wp2_with fail
 refine(SpecX.any HS HP1.out hm).mono ?_;rintro e w2 ⟨e0,A2,ca2,B2,cb2,bd,r1,rfl,hP,hB,hT⟩;have HP2:=Hd hP;have HB2:=Hd (kb_trans HB1.out hB);have HR2:=Hd (HR1.out.kb hgb hB);have HT2:=Hd hT;have hs2:=kb_size hB;clear hP hB hT;unfold exA
 go_wp2_with fail
 have h0:LevR w b w.heap.size w2.heap.size w1.heap.size A n c m all (prodP P) opsSum (sumP P r) (w2.alloc (.cells (exA e0 A2 ca2 B2 cb2) 26)):=by
  have hb0:Below w2.heap.size w2 (w2.alloc (.cells (exA e0 A2 ca2 B2 cb2) 26)):=(Below.refl _ _).alloc (Nat.le_refl _) _;refine⟨e0,A2,ca2,B2,cb2,r1,bd,heap_alloc_new _ _,HR2.out.alloc _,HP2.out.alloc _,kb_trans HB2.out (bl_of hb0),?_⟩;rcases HT2.out with⟨h1,h2,h3⟩|⟨h1,h2⟩
  · have hl:=hle _ _ _ h2;refine .inl ⟨h1,⟨r1.length+1,?_,Nat.le_refl _⟩,by omega,?_⟩
    · rw[HM.out,h2];rfl
    · exact tr_of (by simp) (fun p v q1 q2=>⟨q1,by have:=World.block_lt_of_cell? w2 p q2;omega,by rw[World.cell?_alloc_lt _ _ _ (World.block_lt_of_cell? w2 p q2)];exact q2⟩) h3
  · refine .inr ⟨h1,?_⟩;rw[HM.out,h2];rfl
 have H0:=Hd h0;have hh2:w1.heap.size≤w2.heap.size:=hs2;have hbB:b<w1.heap.size:=by omega
 have HX:=Hd (show w.heap.size≤w2.heap.size∧w2.heap.size≠b∧w.heap.size≠w2.heap.size from⟨by omega,by omega,by omega⟩);clear h0 HT2 HR2 HP2 HB2;generalize hhb:w2.heap.size=hb at *
 go_loopw [7] (fun _ wr=>LevR w b w.heap.size hb w1.heap.size A n c m all (prodP P) opsSum (sumP P r) wr) (fun _ wr=>leftOf b n wr)
 case atStart=>exact H0.out
 case round=>
  obtain⟨e,A1,ca1,B1,cb1,ri,bd,hE,hR,hP,hB,hT⟩:=hrel;have HE:=Hd hE;have HR:=Hd hR;have HP:=Hd hP;have HB:=Hd hB;have HT:=Hd hT;have hb1:hb<wr.heap.size:=hE.lt;have p2:wr.cell? ⟨b,2,none⟩=some (.bool bd):=hP.cell 2;clear hE hR hP hB hT
  cases bd with
  | true=>
   go_wp2_with (first | (refine wpList_load_row rfl _ _ rfl (hb) rfl _ _ _ _ (HE.out) Tryz.underlying26 rfl ex_info ?_) | (refine wpList_store_row rfl _ _ _ rfl (w.heap.size) _ rfl rfl _ _ (HR.out) ex_info rfl (by simp[exA,Value.oneCell']) ?_))
   obtain⟨f1,f2,f3⟩:=(fin_same (x:=e) (A1:=A1) (ca1:=ca1) (B1:=B1) (cb1:=cb1) HB.out HP.out HR.out hgb (Nat.le_refl _) hA);rw[(HT.out.resolve_left (by rintro ⟨h,_⟩;cases h)).2];exact bodyPost_ret (res_ex rfl _ _ (w.heap.size) _ rfl rfl f3) rfl ⟨f1,f2,_,_,_,_,_,rfl⟩
  | false=>
   obtain⟨_,⟨f,hch,hf⟩,hmi,ht⟩:=HT.out.resolve_right (by rintro ⟨h,_⟩;cases h);have HCH:=Hd hch;have HTR:=Hd ht;have hpos:=HP.out.pos;have HL:=Hd (left_good HP.out);clear hch ht HT;obtain⟨sg1,sg2,sg3⟩:=sg_sum HP.out;have HSG:=Hd (prSign [(3,⟨#[43]⟩),(4,⟨#[45]⟩)] _ _ 2 2 sg2 (by simp) (by simp) sg1);have HP3:=Hd sg2;have HB3:=Hd sg3;clear sg1 sg2 sg3;have hz:zsL [(3,⟨#[43]⟩),(4,⟨#[45]⟩)]=opsSum:=rfl;rw[hz] at HSG;clear hz
   go_wp2_with fail
   refine HSG.out.mono ?_;rintro x w3 ⟨hx,hB3⟩;clear HSG;have K3:=kb_trans (bl_of (b:=b) HB3.out) hB3;have HB3':=Hd (kb_trans HB.out K3);have HE3:=Hd (HE.out.kb HX.out.2.1 K3);have HR3:=Hd (HR.out.kb hgb K3);have HT3:=Hd ((Kp.of_kb K3 hbB).tr HTR.out);have hs3:=kb_size K3;clear hB3 K3 HB3 HP3 HTR HP HE HR HB;rcases hx with⟨hs,rfl,hP⟩|⟨_,hs,rfl,_,hP⟩
   · have hs0:=hs.resolve_left (by decide);have HP3:=Hd hP;have HS0:=Hd hs0;clear hs hs0 hP
     go_wp2_with (first | (refine wpList_load_row rfl _ _ rfl (hb) rfl _ _ _ _ (HE3.out) Tryz.underlying26 rfl ex_info ?_) | (refine wpList_store_row rfl _ _ _ rfl (w.heap.size) _ rfl rfl _ _ (HR3.out) ex_info rfl (by simp[exA,Value.oneCell']) ?_))
     obtain⟨f1,f2,f3⟩:=(fin_same (x:=e) (A1:=A1) (ca1:=ca1) (B1:=B1) (cb1:=cb1) HB3'.out HP3.out HR3.out hgb (Nat.le_refl _) hA);rw[HCH.out,chain_stop HS0.out];exact bodyPost_ret (res_ex rfl _ _ (w.heap.size) _ rfl rfl f3) rfl ⟨f1,f2,_,_,_,_,rfl,tree_down ((Kp.setRow (B:=w1.heap.size) _ _ (by omega)).tree (tr_fr (Nat.le_refl _) HT3.out)) (show w.heap.size≤w1.heap.size by omega)⟩
   · have HP3:=Hd hP;have HO:=Hd (show signP opsSum ri≠0 from hs);generalize hop:signP opsSum ri=op at hs ⊢;have HOP:=Hd hop;clear hP hop;have hl1:ri.tail.length=ri.length-1:=by simp
     have hlr:ri.tail.length≤m+1:=by omega
     have HF:=Hd (SpecX.anyD HS HP3.out hlr);obtain⟨q0,q1,q2,q3,q4,q5⟩:=HE3.out.cells
     go_wp2_with fail
     go_region_with (first | (go_at_call 166;refine HF.out.mono ?_;rintro x w5 ⟨y,A5,ca5,B5,cb5,bd5,r5,rfl,hP,hB,hT⟩;have HP5:=Hd hP;have K5:=Hd hB;have HE5:=Hd (HE3.out.kb HX.out.2.1 hB);have HR5:=Hd (HR3.out.kb hgb hB);have HT5:=Hd hT;have hs5:=kb_size hB;clear hP hB hT;obtain⟨d0,d1,d2,d3,d4,d5⟩:=HE5.out.cells;unfold exA) | (go_at_call 125;(refine(prBinC op e y A1 ca1 B1 cb1 A5 ca5 B5 cb5 w5).mono ?_;rintro x w6 ⟨g6,rfl,hb6,k1,k2,k3⟩;have HB6:=Hd hb6;have HE6:=Hd (show RowX w6 hb e A1 ca1 B1 cb1 from(hb6.block _ HE5.out.lt).trans HE5.out);have HG6:=Hd (And.intro k1 (And.intro k2 k3));clear hb6 k1 k2 k3;have hl6:=HE6.out.lt;obtain⟨z0,z1,z2,z3,z4,z5⟩:=HE6.out.cells;have f0:=HE6.out.fz 0;have f1:=HE6.out.fz 1;have f2:=HE6.out.fz 2;have f3:=HE6.out.fz 3;have f4:=HE6.out.fz 4;have f5:=HE6.out.fz 5;unfold exA)))
     all_goals (
      have hst:=lev_step hle (kb_trans HB3'.out K5.out) HE5.out HR5.out HP5.out K5.out HT3.out (by omega) (by omega) HX.out.2.1 HX.out.2.2 hbB HX.out.1 hA HCH.out hf hpos hmi HO.out HT5.out HB6.out HG6.out.1 HG6.out.2.1 HG6.out.2.2;rw[HOP.out] at hst;have hsx:=six_set HE6.out (binX op e y) none 0 (some ⟨g6,0,none⟩) 2;rw[hsx];clear hsx;have HST:=Hd hst;clear hst q0 q1 q2 q3 q4 q5 d0 d1 d2 d3 d4 d5 z0 z1 z2 z3 z4 z5 f0 f1 f2 f3 f4 f5;generalize w6.setRow hb _=W at *
      go_roundw
      case rel=>first | exact HST.out.1 | ((repeat apply Exists.intro);exact⟨HST.out.1,rfl⟩)
      case measure=>(rw[HL.out];exact HST.out.2))
theorem sg_or(h:PSt w b A n c all r bad):SgAt ((w.alloc (.cells #[.int .i64 9,.int .i64 10] 3)).alloc (.cells #[.string ⟨#[111,114]⟩,.string ⟨#[120,111,114]⟩] 9)) b w.heap.size (w.heap.size+1) [(9,⟨#[111,114]⟩),(10,⟨#[120,111,114]⟩)]∧PSt ((w.alloc (.cells #[.int .i64 9,.int .i64 10] 3)).alloc (.cells #[.string ⟨#[111,114]⟩,.string ⟨#[120,111,114]⟩] 9)) b A n c all r bad ∧
 Below w.heap.size w ((w.alloc (.cells #[.int .i64 9,.int .i64 10] 3)).alloc (.cells #[.string ⟨#[111,114]⟩,.string ⟨#[120,111,114]⟩] 9)):=by
 have hlt:=h.lt;have hb:Below w.heap.size w ((w.alloc (.cells #[.int .i64 9,.int .i64 10] 3)).alloc (.cells #[.string ⟨#[111,114]⟩,.string ⟨#[120,111,114]⟩] 9)):=((Below.refl _ _).alloc (Nat.le_refl _) _).alloc (by simp) _;refine⟨⟨fun i hi=>?_,fun i hi=>?_⟩,h.below hb,hb⟩
 · rw[bl_cell (by show w.heap.size≠b;omega),World.cell?_alloc_lt _ _ _ (by simp),World.cell?_alloc_new]
   match i,hi with
   | 0,_ | 1,_=>rfl
 · rw[bl_cell (by show w.heap.size+1≠b;omega)];have:=World.cell?_alloc_new (w.alloc (.cells #[.int .i64 9,.int .i64 10] 3)) #[.string ⟨#[111,114]⟩,.string ⟨#[120,111,114]⟩] 9 i;rw[World.size_alloc] at this;rw[this]
   match i,hi with
   | 0,_ | 1,_=>rfl
theorem prOr(P:Ps)(HS:SpecX 123 (andP P) (m+1))(hle:Less (andP P)):SpecX 99 (orP P) (m+1):=by
 intro w b A n c all r h hm;have hA:=h.home;have hlt:=h.lt;have HM:=Hd (show orP P r=((andP P) r).bind fun e r=>chainP (andP P) opsOr (r.length+1) e r from rfl)
 go_enter Tryz.func99,Tryz.ntmps99
 go_upto_region 1 with(fail)
 generalize hw1:w.alloc _=w1;obtain⟨hP1,hR1,hB1,hgb,hg1⟩:=res_box h hw1;have HP1:=Hd hP1;have HR1:=Hd hR1;have HB1:=Hd hB1;clear hP1 hR1 hB1 hw1
 go_wp2_with fail
 refine(SpecX.any HS HP1.out hm).mono ?_;rintro e w2 ⟨e0,A2,ca2,B2,cb2,bd,r1,rfl,hP,hB,hT⟩;have HP2:=Hd hP;have HB2:=Hd (kb_trans HB1.out hB);have HR2:=Hd (HR1.out.kb hgb hB);have HT2:=Hd hT;have hs2:=kb_size hB;clear hP hB hT;unfold exA
 go_wp2_with fail
 have h0:LevR w b w.heap.size w2.heap.size w1.heap.size A n c m all (andP P) opsOr (orP P r) (w2.alloc (.cells (exA e0 A2 ca2 B2 cb2) 26)):=by
  have hb0:Below w2.heap.size w2 (w2.alloc (.cells (exA e0 A2 ca2 B2 cb2) 26)):=(Below.refl _ _).alloc (Nat.le_refl _) _;refine⟨e0,A2,ca2,B2,cb2,r1,bd,heap_alloc_new _ _,HR2.out.alloc _,HP2.out.alloc _,kb_trans HB2.out (bl_of hb0),?_⟩;rcases HT2.out with⟨h1,h2,h3⟩|⟨h1,h2⟩
  · have hl:=hle _ _ _ h2;refine .inl ⟨h1,⟨r1.length+1,?_,Nat.le_refl _⟩,by omega,?_⟩
    · rw[HM.out,h2];rfl
    · exact tr_of (by simp) (fun p v q1 q2=>⟨q1,by have:=World.block_lt_of_cell? w2 p q2;omega,by rw[World.cell?_alloc_lt _ _ _ (World.block_lt_of_cell? w2 p q2)];exact q2⟩) h3
  · refine .inr ⟨h1,?_⟩;rw[HM.out,h2];rfl
 have H0:=Hd h0;have hh2:w1.heap.size≤w2.heap.size:=hs2;have hbB:b<w1.heap.size:=by omega
 have HX:=Hd (show w.heap.size≤w2.heap.size∧w2.heap.size≠b∧w.heap.size≠w2.heap.size from⟨by omega,by omega,by omega⟩);clear h0 HT2 HR2 HP2 HB2;generalize hhb:w2.heap.size=hb at *
 go_loopw [7] (fun _ wr=>LevR w b w.heap.size hb w1.heap.size A n c m all (andP P) opsOr (orP P r) wr) (fun _ wr=>leftOf b n wr)
 case atStart=>exact H0.out
 case round=>
  obtain⟨e,A1,ca1,B1,cb1,ri,bd,hE,hR,hP,hB,hT⟩:=hrel;have HE:=Hd hE;have HR:=Hd hR;have HP:=Hd hP;have HB:=Hd hB;have HT:=Hd hT;have hb1:hb<wr.heap.size:=hE.lt;have p2:wr.cell? ⟨b,2,none⟩=some (.bool bd):=hP.cell 2;clear hE hR hP hB hT
  cases bd with
  | true=>
   go_wp2_with (first | (refine wpList_load_row rfl _ _ rfl (hb) rfl _ _ _ _ (HE.out) Tryz.underlying26 rfl ex_info ?_) | (refine wpList_store_row rfl _ _ _ rfl (w.heap.size) _ rfl rfl _ _ (HR.out) ex_info rfl (by simp[exA,Value.oneCell']) ?_))
   obtain⟨f1,f2,f3⟩:=(fin_same (x:=e) (A1:=A1) (ca1:=ca1) (B1:=B1) (cb1:=cb1) HB.out HP.out HR.out hgb (Nat.le_refl _) hA);rw[(HT.out.resolve_left (by rintro ⟨h,_⟩;cases h)).2];exact bodyPost_ret (res_ex rfl _ _ (w.heap.size) _ rfl rfl f3) rfl ⟨f1,f2,_,_,_,_,_,rfl⟩
  | false=>
   obtain⟨_,⟨f,hch,hf⟩,hmi,ht⟩:=HT.out.resolve_right (by rintro ⟨h,_⟩;cases h);have HCH:=Hd hch;have HTR:=Hd ht;have hpos:=HP.out.pos;have HL:=Hd (left_good HP.out);clear hch ht HT;obtain⟨sg1,sg2,sg3⟩:=sg_or HP.out;have HSG:=Hd (prSign [(9,⟨#[111,114]⟩),(10,⟨#[120,111,114]⟩)] _ _ 2 2 sg2 (by simp) (by simp) sg1);have HP3:=Hd sg2;have HB3:=Hd sg3;clear sg1 sg2 sg3;have hz:zsL [(9,⟨#[111,114]⟩),(10,⟨#[120,111,114]⟩)]=opsOr:=rfl;rw[hz] at HSG;clear hz
   go_wp2_with fail
   refine HSG.out.mono ?_;rintro x w3 ⟨hx,hB3⟩;clear HSG;have K3:=kb_trans (bl_of (b:=b) HB3.out) hB3;have HB3':=Hd (kb_trans HB.out K3);have HE3:=Hd (HE.out.kb HX.out.2.1 K3);have HR3:=Hd (HR.out.kb hgb K3);have HT3:=Hd ((Kp.of_kb K3 hbB).tr HTR.out);have hs3:=kb_size K3;clear hB3 K3 HB3 HP3 HTR HP HE HR HB;rcases hx with⟨hs,rfl,hP⟩|⟨_,hs,rfl,_,hP⟩
   · have hs0:=hs.resolve_left (by decide);have HP3:=Hd hP;have HS0:=Hd hs0;clear hs hs0 hP
     go_wp2_with (first | (refine wpList_load_row rfl _ _ rfl (hb) rfl _ _ _ _ (HE3.out) Tryz.underlying26 rfl ex_info ?_) | (refine wpList_store_row rfl _ _ _ rfl (w.heap.size) _ rfl rfl _ _ (HR3.out) ex_info rfl (by simp[exA,Value.oneCell']) ?_))
     obtain⟨f1,f2,f3⟩:=(fin_same (x:=e) (A1:=A1) (ca1:=ca1) (B1:=B1) (cb1:=cb1) HB3'.out HP3.out HR3.out hgb (Nat.le_refl _) hA);rw[HCH.out,chain_stop HS0.out];exact bodyPost_ret (res_ex rfl _ _ (w.heap.size) _ rfl rfl f3) rfl ⟨f1,f2,_,_,_,_,rfl,tree_down ((Kp.setRow (B:=w1.heap.size) _ _ (by omega)).tree (tr_fr (Nat.le_refl _) HT3.out)) (show w.heap.size≤w1.heap.size by omega)⟩
   · have HP3:=Hd hP;have HO:=Hd (show signP opsOr ri≠0 from hs);generalize hop:signP opsOr ri=op at hs ⊢;have HOP:=Hd hop;clear hP hop;have hl1:ri.tail.length=ri.length-1:=by simp
     have hlr:ri.tail.length≤m+1:=by omega
     have HF:=Hd (SpecX.anyD HS HP3.out hlr);obtain⟨q0,q1,q2,q3,q4,q5⟩:=HE3.out.cells
     go_wp2_with fail
     go_region_with (first | (go_at_call 123;refine HF.out.mono ?_;rintro x w5 ⟨y,A5,ca5,B5,cb5,bd5,r5,rfl,hP,hB,hT⟩;have HP5:=Hd hP;have K5:=Hd hB;have HE5:=Hd (HE3.out.kb HX.out.2.1 hB);have HR5:=Hd (HR3.out.kb hgb hB);have HT5:=Hd hT;have hs5:=kb_size hB;clear hP hB hT;obtain⟨d0,d1,d2,d3,d4,d5⟩:=HE5.out.cells;unfold exA) | (go_at_call 125;(refine(prBinC op e y A1 ca1 B1 cb1 A5 ca5 B5 cb5 w5).mono ?_;rintro x w6 ⟨g6,rfl,hb6,k1,k2,k3⟩;have HB6:=Hd hb6;have HE6:=Hd (show RowX w6 hb e A1 ca1 B1 cb1 from(hb6.block _ HE5.out.lt).trans HE5.out);have HG6:=Hd (And.intro k1 (And.intro k2 k3));clear hb6 k1 k2 k3;have hl6:=HE6.out.lt;obtain⟨z0,z1,z2,z3,z4,z5⟩:=HE6.out.cells;have f0:=HE6.out.fz 0;have f1:=HE6.out.fz 1;have f2:=HE6.out.fz 2;have f3:=HE6.out.fz 3;have f4:=HE6.out.fz 4;have f5:=HE6.out.fz 5;unfold exA)))
     all_goals (
      have hst:=lev_step hle (kb_trans HB3'.out K5.out) HE5.out HR5.out HP5.out K5.out HT3.out (by omega) (by omega) HX.out.2.1 HX.out.2.2 hbB HX.out.1 hA HCH.out hf hpos hmi HO.out HT5.out HB6.out HG6.out.1 HG6.out.2.1 HG6.out.2.2;rw[HOP.out] at hst;have hsx:=six_set HE6.out (binX op e y) none 0 (some ⟨g6,0,none⟩) 2;rw[hsx];clear hsx;have HST:=Hd hst;clear hst q0 q1 q2 q3 q4 q5 d0 d1 d2 d3 d4 d5 z0 z1 z2 z3 z4 z5 f0 f1 f2 f3 f4 f5;generalize w6.setRow hb _=W at *
      go_roundw
      case rel=>first | exact HST.out.1 | ((repeat apply Exists.intro);exact⟨HST.out.1,rfl⟩)
      case measure=>(rw[HL.out];exact HST.out.2))
end
end
end Go.Proofs.YtokiaaapgkdpmaaGreatDoor
