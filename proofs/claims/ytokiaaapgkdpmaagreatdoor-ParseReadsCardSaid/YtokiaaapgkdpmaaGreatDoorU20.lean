/- Parts: PaP, PaI. Conditions: each theorem's own. -/
import Derived.Test.YtokiaaapgkdpmaaGreatDoorU18
import Derived.Test.YtokiaaapgkdpmaaGreatDoorU19
namespace Go.Proofs.YtokiaaapgkdpmaaGreatDoor
set_option linter.unusedVariables false
set_option linter.unusedSimpArgs false
set_option maxRecDepth 100000
set_option maxHeartbeats 40000000
section
open Go.RowKit Go.Sort
section
variable {w:World}{b:Nat}{A:Option Addr}{n c:Nat}{all r:List Tk}{bad:Bool}{m:Nat}
theorem tail_stop{ar:Psr}{f:Nat}{e:Ex}(h1:isP [91] r=false)(h2:isP whenL r=false):tailP ar f e r=.ok e r:=by
 cases f with
 | zero=>rfl
 | succ f=>simp[tailP,h1,h2]
theorem needAny(s:ByteArray)(h:PSt w b A n c all r bad):Calls Tryz.prog 65 #[.pointer (some ⟨b,0,none⟩),.string s] w fun e w' =>
 e=.returned (.tuple #[])∧∃ bd r1,PSt w' b A n c all r1 bd∧Below w.heap.size (bl b w) (bl b w')∧(bd=false∧bad=false∧(∃ u,needP s.data.toList r=.ok u r1)∨bd=true∧startP bad r (needP s.data.toList r)=.bad r1):=
 (prNeed s h).mono fun e w' k=>by
  cases hg:startP bad r (needP s.data.toList r) with
  | ok u r1=>
   rw[hg] at k;obtain⟨k1,k2,k3⟩:=k
   have hb:bad=false:=by cases bad with
    | true=>cases hg
    | false=>rfl
   subst hb;exact⟨k3,false,r1,k2,k1,.inl ⟨rfl,rfl,u,hg⟩⟩
  | bad r1=>
   rw[hg] at k;obtain⟨k1,k2,k3⟩:=k;exact⟨k3,true,r1,k2,k1,.inr ⟨rfl,rfl⟩⟩
theorem whenAny(h:PSt w b A n c all r false):Calls Tryz.prog 33 #[.pointer (some ⟨b,0,none⟩)] w fun e w' =>
 ∃ s t bd r1,e=.returned (.tuple #[.string s,.string t])∧PSt w' b A n c all r1 bd∧Below w.heap.size (bl b w) (bl b w')∧(bd=false∧(∃ z,whenP r=.ok z r1∧s=ofB z.1∧t=ofB z.2)∨bd=true∧whenP r=.bad r1):=
 (prWhen h).mono fun e w' k=>by
  cases hg:whenP r with
  | ok z r1=>
   rw[hg] at k;obtain⟨k1,k2,k3⟩:=k;exact⟨_,_,false,r1,k3,k2,k1,.inl ⟨rfl,z,rfl,rfl,rfl⟩⟩
  | bad r1=>
   rw[hg] at k;obtain⟨k1,k2,s,t,k3⟩:=k;exact⟨s,t,true,r1,k3,k2,k1,.inr ⟨rfl,rfl⟩⟩
def PtR(w:World)(b g h B0:Nat)(A:Option Addr)(n c m:Nat)(all:List Tk)(ar:Psr)(g0:PR Ex)(wr:World):Prop:=
 ∃ (e:Ex) (A1:Option Addr) (ca1:Nat) (B1:Option Addr) (cb1:Nat) (ri:List Tk) (bd:Bool),RowX wr h e A1 ca1 B1 cb1∧RowX wr g zX none 0 none 0∧PSt wr b A n c all ri bd∧Below w.heap.size (bl b w) (bl b wr) ∧
  (bd=false∧(∃ f,g0=tailP ar f e ri∧ri.length+1≤f)∧ri.length≤m+1∧rdX (tr B0 h wr) e A1 B1∨bd=true∧g0=.bad ri)
theorem pt_step{W:World}{g h B0 f:Nat}{g0:PR Ex}{ar:Psr}{e x:Ex}{A1:Option Addr}{ca1:Nat}{B1:Option Addr}{cb1:Nat}{ri r6:List Tk}{bd:Bool}
 (hh:RowX W h x A1 ca1 B1 cb1) (hg:RowX W g zX none 0 none 0) (hp:PSt W b A n c all r6 bd) (hb:Below w.heap.size (bl b w) (bl b W)) (hch:g0=tailP ar f e ri) (hf:ri.length+1≤f) (hpos:1≤ri.length) (hm:ri.length≤m+1)
 (ht:bd=false∧(∀ f,tailP ar (f+1) e ri=tailP ar f x r6)∧r6.length<ri.length∧rdX (tr B0 h W) x A1 B1∨bd=true∧∀ f,tailP ar (f+1) e ri=.bad r6):
 PtR w b g h B0 A n c m all ar g0 W∧leftOf b n W<ri.length:=by
 obtain⟨f,rfl⟩:∃ f',f=f'+1:=⟨f-1,by omega⟩;rcases ht with⟨rfl,h1,h2,h3⟩|⟨rfl,h1⟩
 · exact⟨⟨_,_,_,_,_,r6,false,hh,hg,hp,hb,.inl ⟨rfl,⟨f,hch.trans (h1 f),by omega⟩,by omega,h3⟩⟩,by rw[left_good hp];exact h2⟩
 · exact⟨⟨_,_,_,_,_,r6,true,hh,hg,hp,hb,.inr ⟨rfl,hch.trans (h1 f)⟩⟩,by rw[left_bad hp];omega⟩
theorem two_lit{V:World}{h B0:Nat}(k op:Int){x y:Ex}{A1:Option Addr}{ca1:Nat}{B1:Option Addr}{cb1:Nat}{A2:Option Addr}{ca2:Nat}{B2:Option Addr}{cb2:Nat}(hB:B0≤V.heap.size)(hh:h<V.heap.size)(cs:Array Value)
 (tx:rdX (tr B0 h V) x A1 B1) (ty:rdX (tr B0 h V) y A2 B2):
 rdX (tr B0 h ((V.alloc (.cells (exA2 x A1 ca1 B1 cb1 y A2 ca2 B2 cb2) 26)).setRow h cs)) (.mk k 0 ByteArray.empty op [] [x,y]) none (some ⟨V.heap.size,0,none⟩):=by
 refine tr_set _ ?_;rw[rdX_eq];refine⟨RdT.nil_ _,rfl,(show(2:Nat)≤9223372036854775807 by omega),fun _=>⟨V.heap.size,0,rfl,by rw[tr_size,World.size_alloc];omega,two_in (ca1:=ca1) (cb1:=cb1) (ca2:=ca2) (cb2:=cb2) (fun j=>?_) ((Kp.alloc B0 V _).tr tx) ((Kp.alloc B0 V _).tr ty)⟩⟩;rw[tr_cell (by show B0≤V.heap.size;exact hB) (by show V.heap.size≠h;omega)];exact World.cell?_alloc_new V _ _ j
theorem one_in{g:Nat}{V:World}{x:Ex}{A1:Option Addr}{ca1:Nat}{B1:Option Addr}{cb1:Nat}(hc:∀ j,V.cell? ⟨g,j,none⟩=(exA x A1 ca1 B1 cb1)[j]?)(h:rdX V x A1 B1):rdXs V [x] g 0:=by
 simp only[rdXs];exact⟨⟨A1,ca1,B1,cb1,rangeAt_exL hc (fun j u hj=>by rw[Nat.zero_add,← exL_A,List.getElem?_toArray];exact hj),h⟩,trivial⟩
theorem when_lit{V:World}{h B0:Nat}{x:Ex}{A1:Option Addr}{ca1:Nat}{B1:Option Addr}{cb1:Nat}(s a:ByteArray)(hB:B0≤V.heap.size)(hh:h<V.heap.size)(cs:Array Value)(tx:rdX (tr B0 h V) x A1 B1):
 rdX (tr B0 h (((V.alloc (.cells #[.string a] 9)).alloc (.cells (exA x A1 ca1 B1 cb1) 26)).setRow h cs)) (.mk 11 0 s 0 [a] [x]) (some ⟨V.heap.size,0,none⟩) (some ⟨V.heap.size+1,0,none⟩):=by
 refine tr_set _ ?_;rw[rdX_eq];have hs:(V.alloc (.cells #[.string a] 9)).heap.size=V.heap.size+1:=World.size_alloc _ _;refine⟨⟨rfl,(show(1:Nat)≤9223372036854775807 by omega),fun _=>⟨V.heap.size,0,rfl,by rw[tr_size,World.size_alloc,hs];omega,fun i hi=>?_⟩⟩,rfl,(show(1:Nat)≤9223372036854775807 by omega),fun _=>⟨V.heap.size+1,0,rfl,by rw[tr_size,World.size_alloc,hs];omega,?_⟩⟩
 · have hi0:i=0:=by have:i<1:=hi;omega
   subst hi0;rw[tr_cell (by show B0≤V.heap.size;exact hB) (by show V.heap.size≠h;omega),World.cell?_alloc_lt _ _ _ (by rw[hs];show V.heap.size<_;omega),World.cell?_alloc_new];rfl
 · refine one_in (ca1:=ca1) (cb1:=cb1) (fun j=>?_) ((Kp.alloc B0 _ _).tr ((Kp.alloc B0 V _).tr tx));rw[tr_cell (by show B0≤V.heap.size+1;omega) (by show V.heap.size+1≠h;omega)];have:=World.cell?_alloc_new (V.alloc (.cells #[.string a] 9)) (exA x A1 ca1 B1 cb1) 26 j;rwa [hs] at this
theorem prPost(ar po:Psr)(HS:SpecX 179 (atomP ar po) (m+1))(hle:Less (atomP ar po))(HAR:SpecX 30 ar m)(hla:Less ar):SpecX 172 (postP ar po) (m+1):=by
 intro w b A n c all r h hm;have hA:=h.home;have hlt:=h.lt;have HM:=Hd (show postP ar po r=(atomP ar po r).bind fun e r2=>tailP ar (r.length+1) e r2 from rfl)
 go_enter Tryz.func172,Tryz.ntmps172
 go_upto_region 1 with(fail)
 generalize hw1:w.alloc _=w1;obtain⟨hP1,hR1,hB1,hgb,hg1⟩:=res_box h hw1;have HP1:=Hd hP1;have HR1:=Hd hR1;have HB1:=Hd hB1;clear hP1 hR1 hB1 hw1
 go_wp2_with fail
 refine(SpecX.any HS HP1.out hm).mono ?_;rintro e w2 ⟨e0,A2,ca2,B2,cb2,bd,r1,rfl,hP,hB,hT⟩;have HP2:=Hd hP;have HB2:=Hd (kb_trans HB1.out hB);have HR2:=Hd (HR1.out.kb hgb hB);have HT2:=Hd hT;have hs2:=kb_size hB;clear hP hB hT;unfold exA
 go_wp2_with fail
 have h0:PtR w b w.heap.size w2.heap.size w1.heap.size A n c m all ar (postP ar po r) (w2.alloc (.cells (exA e0 A2 ca2 B2 cb2) 26)):=by
  have hb0:Below w2.heap.size w2 (w2.alloc (.cells (exA e0 A2 ca2 B2 cb2) 26)):=(Below.refl _ _).alloc (Nat.le_refl _) _;refine⟨e0,A2,ca2,B2,cb2,r1,bd,heap_alloc_new _ _,HR2.out.alloc _,HP2.out.alloc _,kb_trans HB2.out (bl_of hb0),?_⟩;rcases HT2.out with⟨h1,h2,h3⟩|⟨h1,h2⟩
  · have hl:=hle _ _ _ h2;refine .inl ⟨h1,⟨r.length+1,?_,by omega⟩,by omega,?_⟩
    · rw[HM.out,h2];rfl
    · exact tr_of (by simp) (fun p v q1 q2=>⟨q1,by have:=World.block_lt_of_cell? w2 p q2;omega,by rw[World.cell?_alloc_lt _ _ _ (World.block_lt_of_cell? w2 p q2)];exact q2⟩) h3
  · refine .inr ⟨h1,?_⟩;rw[HM.out,h2];rfl
 have H0:=Hd h0;have hh2:w1.heap.size≤w2.heap.size:=hs2;have hbB:b<w1.heap.size:=by omega
 have HX:=Hd (show w.heap.size≤w2.heap.size∧w2.heap.size≠b∧w.heap.size≠w2.heap.size from⟨by omega,by omega,by omega⟩);clear h0 HT2 HR2 HP2 HB2;generalize hhb:w2.heap.size=hb at *
 go_loopw [9] (fun _ wr=>PtR w b w.heap.size hb w1.heap.size A n c m all ar (postP ar po r) wr) (fun _ wr=>leftOf b n wr)
 case atStart=>exact H0.out
 case round=>
  obtain⟨e,A1,ca1,B1,cb1,ri,bd,hE,hR,hP,hB,hT⟩:=hrel;have HE:=Hd hE;have HR:=Hd hR;have HP:=Hd hP;have HB:=Hd hB;have HT:=Hd hT;have hb1:hb<wr.heap.size:=hE.lt;have p2:wr.cell? ⟨b,2,none⟩=some (.bool bd):=hP.cell 2;clear hE hR hP hB hT
  cases bd with
  | true=>
   go_wp2_with (first | (refine wpList_load_row rfl _ _ rfl (hb) rfl _ _ _ _ (HE.out) Tryz.underlying26 rfl ex_info ?_) | (refine wpList_store_row rfl _ _ _ rfl (w.heap.size) _ rfl rfl _ _ (HR.out) ex_info rfl (by simp[exA,Value.oneCell']) ?_))
   obtain⟨f1,f2,f3⟩:=(fin_same (x:=e) (A1:=A1) (ca1:=ca1) (B1:=B1) (cb1:=cb1) HB.out HP.out HR.out hgb (Nat.le_refl _) hA);rw[(HT.out.resolve_left (by rintro ⟨h,_⟩;cases h)).2];exact bodyPost_ret (res_ex rfl _ _ (w.heap.size) _ rfl rfl f3) rfl ⟨f1,f2,_,_,_,_,_,rfl⟩
  | false=>
   obtain⟨_,⟨f,hch,hf⟩,hmi,ht⟩:=HT.out.resolve_right (by rintro ⟨h,_⟩;cases h);have HCH:=Hd hch;have HTR:=Hd ht;have hpos:=HP.out.pos;have HL:=Hd (left_good HP.out);clear hch ht HT
   cases h1:isP [91] ri with
   | true=>
    go_wp2_with fail
    refine(take_yes ⟨#[91]⟩ HP.out h1).mono ?_;rintro x w3 ⟨rfl,hP,hB⟩;have HP3:=Hd hP;have HB3:=Hd (kb_trans HB.out hB);have HE3:=Hd (HE.out.kb HX.out.2.1 hB);have HR3:=Hd (HR.out.kb hgb hB);have HTR3:=Hd ((Kp.of_kb hB hbB).tr HTR.out);have hs3:=kb_size hB;clear hP hB;have hl1:ri.tail.length=ri.length-1:=by simp
    have hlr:ri.tail.length≤m:=by omega
    go_wp2_with fail
    refine(SpecX.any HAR HP3.out hlr).mono ?_;rintro x w4 ⟨y,A5,ca5,B5,cb5,bd5,r5,rfl,hP,hB,hT⟩;have HP4:=Hd hP;have HB4:=Hd (kb_trans HB3.out hB);have HE4:=Hd (HE3.out.kb HX.out.2.1 hB);have HR4:=Hd (HR3.out.kb hgb hB);have HTR4:=Hd ((Kp.of_kb hB hbB).tr HTR3.out);have hs4:=kb_size hB;have HY4:=Hd hT;clear hP hB hT;unfold exA
    go_upto_region 5 with(fail)
    generalize hwb:w4.alloc _=w5;obtain⟨hP,hG5,hB,hgi,hg5,hK5⟩:=ex_box HP4.out hwb;have HP5:=Hd hP;have HB5:=Hd (kb_trans HB4.out hB);have HE5:=Hd (HE4.out.kb HX.out.2.1 hB);have HR5:=Hd (HR4.out.kb hgb hB);have HTR5:=Hd ((Kp.of_kb hB hbB).tr HTR4.out);have hs5:=kb_size hB;have HG5:=Hd hG5
    have HY5:=Hd (show bd5=false∧ar ri.tail=.ok y r5∧rdX (tr w1.heap.size hb w5) y A5 B5∨bd5=true∧ar ri.tail=.bad r5 from by
     rcases HY4.out with⟨k1,k2,k3⟩ | k1
     · have hlt3:=HE3.out.lt;exact .inl ⟨k1,k2,tr_of (by omega) (fun p v q1 q2=>⟨by omega,by omega,(hK5 w3.heap.size).2 p v q1 q2⟩) k3⟩
     · exact .inr k1)
    clear hP hB hwb hK5 hG5 HY4
    go_wp2_with fail
    refine(needAny ⟨#[93]⟩ HP5.out).mono ?_;rintro x w6 ⟨rfl,bd6,r6,hP,hB,hN⟩;have HP6:=Hd hP;have HB6:=Hd (kb_trans HB5.out hB);have HE6:=Hd (HE5.out.kb HX.out.2.1 hB);have HR6:=Hd (HR5.out.kb hgb hB);have HTR6:=Hd ((Kp.of_kb hB hbB).tr HTR5.out);have hs6:=kb_size hB;have HG6:=Hd (HG5.out.kb hgi hB);have HK6:=Hd (Kp.of_kb hB hbB);have HN6:=Hd hN;clear hP hB hN;obtain⟨q0,q1,q2,q3,q4,q5⟩:=HE6.out.cells;obtain⟨d0,d1,d2,d3,d4,d5⟩:=HG6.out.cells;have hlt6:=HE6.out.lt;have hltb:=HP6.out.lt
    go_wp2_with (refine wpList_store_row rfl _ _ _ rfl (hb) _ rfl rfl _ _ (HE6.out.alloc _) ex_info rfl (by simp[exA,Value.oneCell']) ?_)
    have hst:=pt_step (B0:=w1.heap.size) (x:=.mk 15 0 ByteArray.empty 0 [] [e,y]) (A1:=none) (ca1:=0) (B1:=some ⟨w6.heap.size,0,none⟩) (cb1:=2) (W:=(w6.alloc (.cells (exA2 e A1 ca1 B1 cb1 y A5 ca5 B5 cb5) 26)).setRow hb (exA (.mk 15 0 ByteArray.empty 0 [] [e,y]) none 0 (some ⟨w6.heap.size,0,none⟩) 2))
     (HE6.out.alloc _).set ((HR6.out.alloc _).other HX.out.2.2 _) ((HP6.out.alloc _).setRow HX.out.2.1 (fun b0 off e1=>by have:=hA b0 off e1;have:=HX.out.1;omega) _) (kb_setRow (kb_alloc HB6.out hltb _) HX.out.2.1 HX.out.1 _) HCH.out hf hpos hmi (by
      rcases HN6.out with⟨k1,k2,u,k3⟩|⟨k1,k2⟩
      · obtain⟨_,j2,j3⟩:=HY5.out.resolve_right (by rintro ⟨j,_⟩;rw[k2] at j;cases j);refine .inl ⟨k1,fun f=>?_,?_,two_lit 15 0 (by omega) (by omega) _ HTR6.out (HK6.out.tr j3)⟩
        · simp[tailP,h1,j2,show needP [93] r5=.ok u r6 from k3]
        · have:=hla _ _ _ j2;have:=need_less k3;omega
      · refine .inr ⟨k1,fun f=>?_⟩;rcases HY5.out with⟨rfl,j2,j3⟩|⟨rfl,j2⟩
        · simp[tailP,h1,j2,show needP [93] r5=.bad r6 from k2]
        · have k3:(PR.bad r5:PR Unit)=.bad r6:=k2;injection k3 with k3;subst k3
          simp[tailP,h1,j2])
    clear q0 q1 q2 q3 q4 q5 d0 d1 d2 d3 d4 d5;have HST:=Hd hst;clear hst
    go_roundw
    case rel=>first | exact HST.out.1 | ((repeat apply Exists.intro);exact⟨HST.out.1,rfl⟩)
    case measure=>(rw[HL.out];exact HST.out.2)
   | false=>
    go_wp2_with fail
    refine(take_no ⟨#[91]⟩ HP.out (show(!false && isP _ _)=false by rw[Bool.not_false,Bool.true_and];exact h1)).mono ?_;rintro x w3 ⟨rfl,hP,hB⟩;have HP3:=Hd hP;have HB3:=Hd (kb_trans HB.out hB);have HE3:=Hd (HE.out.kb HX.out.2.1 hB);have HR3:=Hd (HR.out.kb hgb hB);have HTR3:=Hd ((Kp.of_kb hB hbB).tr HTR.out);have hs3:=kb_size hB;clear hP hB
    cases h2:isP whenL ri with
    | false=>
     go_wp2_with fail
     refine(take_no ⟨#[119,104,101,110]⟩ HP3.out (show(!false && isP _ _)=false by rw[Bool.not_false,Bool.true_and];exact h2)).mono ?_;rintro x w4 ⟨rfl,hP,hB⟩;have HP4:=Hd hP;have HB4:=Hd (kb_trans HB3.out hB);have HE4:=Hd (HE3.out.kb HX.out.2.1 hB);have HR4:=Hd (HR3.out.kb hgb hB);have HTR4:=Hd ((Kp.of_kb hB hbB).tr HTR3.out);have hs4:=kb_size hB;clear hP hB
     go_wp2_with (first | (refine wpList_load_row rfl _ _ rfl (hb) rfl _ _ _ _ (HE4.out) Tryz.underlying26 rfl ex_info ?_) | (refine wpList_store_row rfl _ _ _ rfl (w.heap.size) _ rfl rfl _ _ (HR4.out) ex_info rfl (by simp[exA,Value.oneCell']) ?_))
     obtain⟨f1,f2,f3⟩:=(fin_same (x:=e) (A1:=A1) (ca1:=ca1) (B1:=B1) (cb1:=cb1) HB4.out HP4.out HR4.out hgb (Nat.le_refl _) hA);rw[HCH.out,tail_stop h1 h2];exact bodyPost_ret (res_ex rfl _ _ (w.heap.size) _ rfl rfl f3) rfl ⟨f1,f2,_,_,_,_,rfl,tree_down ((Kp.setRow (B:=w1.heap.size) _ _ (by omega)).tree (tr_fr (Nat.le_refl _) HTR4.out)) (show w.heap.size≤w1.heap.size by omega)⟩
    | true=>
     go_wp2_with fail
     refine(take_yes ⟨#[119,104,101,110]⟩ HP3.out h2).mono ?_;rintro x w4 ⟨rfl,hP,hB⟩;have HP4:=Hd hP;have HB4:=Hd (kb_trans HB3.out hB);have HE4:=Hd (HE3.out.kb HX.out.2.1 hB);have HR4:=Hd (HR3.out.kb hgb hB);have HTR4:=Hd ((Kp.of_kb hB hbB).tr HTR3.out);have hs4:=kb_size hB;clear hP hB
     go_wp2_with fail
     refine(whenAny HP4.out).mono ?_;rintro x w6 ⟨s,a,bd6,r6,rfl,hP,hB,hN⟩;have HP6:=Hd hP;have HB6:=Hd (kb_trans HB4.out hB);have HE6:=Hd (HE4.out.kb HX.out.2.1 hB);have HR6:=Hd (HR4.out.kb hgb hB);have HTR6:=Hd ((Kp.of_kb hB hbB).tr HTR4.out);have hs6:=kb_size hB;have HN6:=Hd hN;clear hP hB hN;obtain⟨q0,q1,q2,q3,q4,q5⟩:=HE6.out.cells;have hlt6:=HE6.out.lt;have hltb:=HP6.out.lt;have hl1:ri.tail.length=ri.length-1:=by simp
     go_wp2_with (refine wpList_store_row rfl _ _ _ rfl (hb) _ rfl rfl _ _ ((HE6.out.alloc _).alloc _) ex_info rfl (by simp[exA,Value.oneCell']) ?_)
     have hst:=pt_step (B0:=w1.heap.size) (x:=.mk 11 0 s 0 [a] [e]) (A1:=some ⟨w6.heap.size,0,none⟩) (ca1:=1) (B1:=some ⟨w6.heap.size+1,0,none⟩) (cb1:=1) (W:=((w6.alloc (.cells #[.string a] 9)).alloc (.cells (exA e A1 ca1 B1 cb1) 26)).setRow hb (exA (.mk 11 0 s 0 [a] [e]) (some ⟨w6.heap.size,0,none⟩) 1 (some ⟨w6.heap.size+1,0,none⟩) 1))
      ((HE6.out.alloc _).alloc _).set (((HR6.out.alloc _).alloc _).other HX.out.2.2 _) (((HP6.out.alloc _).alloc _).setRow HX.out.2.1 (fun b0 off e1=>by have:=hA b0 off e1;have:=HX.out.1;omega) _) (kb_setRow (kb_alloc (kb_alloc HB6.out hltb _) (HP6.out.alloc _).lt _) HX.out.2.1 HX.out.1 _) HCH.out hf hpos hmi (by
        rcases HN6.out with⟨k1,z,k2,rfl,rfl⟩|⟨k1,k2⟩
        · refine .inl ⟨k1,fun f=>?_,?_,when_lit _ _ (by omega) (by omega) _ HTR6.out⟩
          · simp[tailP,h1,h2,k2]
          · have:=when_less k2;omega
        · exact .inr ⟨k1,fun f=>by simp[tailP,h1,h2,k2]⟩)
     clear q0 q1 q2 q3 q4 q5;have HST:=Hd hst;clear hst
     go_roundw
     case rel=>first | exact HST.out.1 | ((repeat apply Exists.intro);exact⟨HST.out.1,rfl⟩)
     case measure=>(rw[HL.out];exact HST.out.2)
end
end
section
open Go.RowKit Go.Sort
section
variable {w:World}{b:Nat}{A:Option Addr}{n c:Nat}{all r:List Tk}{bad:Bool}{m:Nat}
theorem inv_step{α β:Type}{g0:PR β}{x:PR α}{cont:α→List Tk→PR β}{X:Prop}{Y:α→Prop}{r1:List Tk}{bd:Bool}(h:bad=false∧g0=x.bind cont∧X∨bad=true∧g0=.bad r)
 (k:bd=false∧bad=false∧(∃ a,x=.ok a r1∧Y a)∨bd=true∧startP bad r x=.bad r1):bd=false∧(∃ a,Y a∧g0=cont a r1)∧X∨bd=true∧g0=.bad r1:=by
 rcases k with⟨rfl,rfl,a,rfl,hy⟩|⟨rfl,k⟩
 · obtain⟨_,h1,h2⟩:=h.resolve_right (by rintro ⟨h,_⟩;cases h);exact .inl ⟨rfl,⟨a,hy,h1⟩,h2⟩
 · refine .inr ⟨rfl,?_⟩;rcases h with⟨rfl,h1,_⟩|⟨rfl,h1⟩
   · have k2:x=.bad r1:=k;rw[h1,k2];rfl
   · have k2:(PR.bad r:PR α)=.bad r1:=k;injection k2 with k2;rw[h1,k2]
theorem arrowAny{ar:Psr}(H:SpecX 30 ar m)(hla:Less ar)(h:PSt w b A n c all r bad)(hr:bad=false→r.length≤m):Calls Tryz.prog 30 #[.pointer (some ⟨b,0,none⟩)] w fun e w' =>
 ∃ e0 A' ca B' cb bd r1,e=.returned (.agg (exA e0 A' ca B' cb))∧PSt w' b A n c all r1 bd∧Below w.heap.size (bl b w) (bl b w')∧(bd=false∧bad=false∧(∃ a,ar r=.ok a r1∧(a=e0∧r1.length≤r.length∧rdX (fr w.heap.size w') e0 A' B'))∨bd=true∧startP bad r (ar r)=.bad r1):=by
 cases bad with
 | false=>
  refine(H.any h (hr rfl)).mono fun e w' ⟨e0,A',ca,B',cb,bd,r1,k1,k2,k3,k4⟩=>⟨e0,A',ca,B',cb,bd,r1,k1,k2,k3,?_⟩;rcases k4 with⟨k4,k5,k6⟩|⟨k4,k5⟩
  · exact .inl ⟨k4,rfl,e0,k5,rfl,hla _ _ _ k5,k6⟩
  · exact .inr ⟨k4,k5⟩
 | true=>
  refine(prArrow_bad h).mono fun e w' ⟨k1,k2,x,A',ca,B',cb,k3⟩=>⟨x,A',ca,B',cb,true,r,k3,k2,k1,.inr ⟨rfl,rfl⟩⟩
theorem arrowAnyD{ar:Psr}(H:SpecX 30 ar m)(hla:Less ar)(h:PSt w b A n c all r bad)(hr:bad=false→r.length≤m):Calls Tryz.prog 30 #[.pointer (some ⟨b,0,none⟩)] w.drew fun e w' =>
 ∃ e0 A' ca B' cb bd r1,e=.returned (.agg (exA e0 A' ca B' cb))∧PSt w' b A n c all r1 bd∧Below w.heap.size (bl b w) (bl b w')∧(bd=false∧bad=false∧(∃ a,ar r=.ok a r1∧(a=e0∧r1.length≤r.length∧rdX (fr w.heap.size w') e0 A' B'))∨bd=true∧startP bad r (ar r)=.bad r1):=
 (arrowAny H hla (PSt.drew h) hr).mono fun e w' ⟨e0,A',ca,B',cb,bd,r1,k1,k2,k3,k4⟩=>⟨e0,A',ca,B',cb,bd,r1,k1,k2,kb_undrew k3,k4⟩
theorem needStep(s:ByteArray)(h:PSt w b A n c all r bad):Calls Tryz.prog 65 #[.pointer (some ⟨b,0,none⟩),.string s] w fun e w' =>
 e=.returned (.tuple #[])∧∃ bd r1,PSt w' b A n c all r1 bd∧Below w.heap.size (bl b w) (bl b w')∧(bd=false∧bad=false∧(∃ u,needP s.data.toList r=.ok u r1∧r1.length≤r.length)∨bd=true∧startP bad r (needP s.data.toList r)=.bad r1):=
 (needAny s h).mono fun e w' ⟨k1,bd,r1,k2,k3,k4⟩=>⟨k1,bd,r1,k2,k3,k4.imp (fun⟨a1,a2,u,a3⟩=>⟨a1,a2,u,a3,need_less a3⟩) id⟩
def exA3(x:Ex)(A1:Option Addr)(ca1:Nat)(B1:Option Addr)(cb1:Nat)(y:Ex)(A2:Option Addr)(ca2:Nat)(B2:Option Addr)(cb2:Nat)(z:Ex)(A3:Option Addr)(ca3:Nat)(B3:Option Addr)(cb3:Nat):Array Value:=
 #[.int .i64 x.k,.int .i64 x.n,.string x.s,.int .i64 x.op,.slice A1 x.arms.length ca1,.slice B1 x.subs.length cb1,.int .i64 y.k,.int .i64 y.n,.string y.s,.int .i64 y.op,.slice A2 y.arms.length ca2,.slice B2 y.subs.length cb2,
  .int .i64 z.k,.int .i64 z.n,.string z.s,.int .i64 z.op,.slice A3 z.arms.length ca3,.slice B3 z.subs.length cb3]
theorem three_in{g:Nat}{V:World}{x y z:Ex}{A1 A2 A3:Option Addr}{ca1 ca2 ca3:Nat}{B1 B2 B3:Option Addr}{cb1 cb2 cb3:Nat}(hc:∀ j,V.cell? ⟨g,j,none⟩=(exA3 x A1 ca1 B1 cb1 y A2 ca2 B2 cb2 z A3 ca3 B3 cb3)[j]?)(h:rdX V x A1 B1)(k:rdX V y A2 B2)(l:rdX V z A3 B3):
 rdXs V [x,y,z] g 0:=by
 simp only[rdXs];refine⟨⟨A1,ca1,B1,cb1,rangeAt_exL hc (fun j u hj=>?_),h⟩,⟨A2,ca2,B2,cb2,rangeAt_exL hc (fun j u hj=>?_),k⟩,⟨A3,ca3,B3,cb3,rangeAt_exL hc (fun j u hj=>?_),l⟩,trivial⟩
 · match j,hj with
   | 0,hj | 1,hj | 2,hj | 3,hj | 4,hj | 5,hj=>exact hj
 · match j,hj with
   | 0,hj | 1,hj | 2,hj | 3,hj | 4,hj | 5,hj=>exact hj
 · match j,hj with
   | 0,hj | 1,hj | 2,hj | 3,hj | 4,hj | 5,hj=>exact hj
theorem three_lit{V:World}{h B0:Nat}(k op:Int){x y z:Ex}{A1 A2 A3:Option Addr}{ca1 ca2 ca3:Nat}{B1 B2 B3:Option Addr}{cb1 cb2 cb3:Nat}(hB:B0≤V.heap.size)(hh:h<V.heap.size)(cs:Array Value)
 (tx:rdX (tr B0 h V) x A1 B1) (ty:rdX (tr B0 h V) y A2 B2) (tz:rdX (tr B0 h V) z A3 B3):
 rdX (tr B0 h ((V.setRow h cs).alloc (.cells (exA3 x A1 ca1 B1 cb1 y A2 ca2 B2 cb2 z A3 ca3 B3 cb3) 26))) (.mk k 0 ByteArray.empty op [] [x,y,z]) none (some ⟨V.heap.size,0,none⟩):=by
 have hs:(V.setRow h cs).heap.size=V.heap.size:=setRow_size _ _ _;rw[rdX_eq];refine⟨RdT.nil_ _,rfl,(show(3:Nat)≤9223372036854775807 by omega),fun _=>⟨V.heap.size,0,rfl,by rw[tr_size,World.size_alloc,hs];omega,three_in (ca1:=ca1) (cb1:=cb1) (ca2:=ca2) (cb2:=cb2) (ca3:=ca3) (cb3:=cb3) (fun j=>?_) ((Kp.alloc B0 _ _).tr (tr_set _ tx)) ((Kp.alloc B0 _ _).tr (tr_set _ ty)) ((Kp.alloc B0 _ _).tr (tr_set _ tz))⟩⟩;rw[tr_cell (by show B0≤V.heap.size;exact hB) (by show V.heap.size≠h;omega)];have:=World.cell?_alloc_new (V.setRow h cs) (exA3 x A1 ca1 B1 cb1 y A2 ca2 B2 cb2 z A3 ca3 B3 cb3) 26 j;rwa [hs] at this
theorem three_box{w0 w5:World}{g h:Nat}{e0 x y z zo:Ex}{Az:Option Addr}{caz:Nat}{Bo:Option Addr}{cbz:Nat}{A0:Option Addr}{ca0:Nat}{B0:Option Addr}{cb0:Nat}(k op:Int)(cs:Array Value){bd:Bool}
 (hb:Below w0.heap.size (bl b w0) (bl b w5)) (hp:PSt w5 b A n c all r bd) (hr:RowX w5 g zo Az caz Bo cbz) (he:RowX w5 h e0 A0 ca0 B0 cb0) (hh:h≠b) (hgh:g≠h) (hw:w0.heap.size≤h) (hA:∀ b0 off,A=some ⟨b0,off,none⟩→b0<w0.heap.size):
 let W:=(w5.setRow h (exA (.mk k 0 ByteArray.empty op [] [x,y,z]) none 0 (some ⟨w5.heap.size,0,none⟩) 3)).alloc (.cells cs 26)
 Below w0.heap.size (bl b w0) (bl b W)∧PSt W b A n c all r bd∧RowX W g zo Az caz Bo cbz∧RowX W h (.mk k 0 ByteArray.empty op [] [x,y,z]) none 0 (some ⟨w5.heap.size,0,none⟩) 3:=by
 intro W;have hp1:PSt (w5.setRow h (exA (.mk k 0 ByteArray.empty op [] [x,y,z]) none 0 (some ⟨w5.heap.size,0,none⟩) 3)) b A n c all r bd:=hp.setRow hh (fun b0 off e=>by have:=hA b0 off e;omega) _;exact⟨kb_alloc (kb_setRow hb hh hw _) hp1.lt _,hp1.alloc _,(hr.other hgh _).alloc _,he.set.alloc _⟩
theorem PR.assoc{α β γ:Type}(x:PR α)(f:α→List Tk→PR β)(g:β→List Tk→PR γ):(x.bind f).bind g=x.bind fun a r=>(f a r).bind g:=by
 cases x <;> rfl
theorem round_eq{ar:Psr}{e0:Ex}{r1:List Tk}(hr1:ar r=.ok e0 r1)(hi:isP withL r1=true):
 roundP ar r=(needP [91] r1.tail).bind fun _ r=>(ar r).bind fun i r=>(needP [93] r).bind fun _ r=>(needP [61] r).bind fun _ r=>(ar r).bind fun v r=>(needP [41] r).bind fun _ r=>.ok (Ex.mk 16 0 ByteArray.empty 0 [] [e0,i,v]) r:=by
 simp only[roundP,hr1,hi,PR.bind_ok,if_true,PR.assoc]
theorem prRound(ar:Psr)(HAR:SpecX 30 ar m)(hla:Less ar):SpecX 193 (roundP ar) m:=by
 intro w b A n c all r h hm;have hA:=h.home;have hlt:=h.lt
 go_enter Tryz.func193,Tryz.ntmps193
 go_upto_region 1 with(fail)
 generalize hw1:w.alloc _=w1;obtain⟨hP1,hR1,hB1,hgb,hg1⟩:=res_box h hw1;have HP1:=Hd hP1;have HR1:=Hd hR1;have HB1:=Hd hB1;clear hP1 hR1 hB1 hw1
 go_wp2_with fail
 refine(arrowAny HAR hla HP1.out (fun _=>hm)).mono ?_;rintro x w2 ⟨e0,A2,ca2,B2,cb2,bd,r1,rfl,hP,hB,hT⟩;have HP2:=Hd hP;have HB2:=Hd (kb_trans HB1.out hB);have HR2:=Hd (HR1.out.kb hgb hB);have HT2:=Hd hT;have hs2:=kb_size hB;clear hP hB hT;unfold exA
 go_upto_region 2 with(fail)
 generalize hwr:w2.alloc _=w3;obtain⟨hP3,hR3,hB3,hgb3,hg3,hK3⟩:=ex_box HP2.out hwr;have HP3:=Hd hP3;have HE3:=Hd hR3;have HB3:=Hd (kb_trans HB2.out hB3);have HR3:=Hd (HR2.out.kb hgb hB3);have hbB:b<w1.heap.size:=by omega
 have HT3:=Hd (show bd=false∧ar r=.ok e0 r1∧rdX (tr w1.heap.size w2.heap.size w3) e0 A2 B2∨bd=true∧ar r=.bad r1 from by
  rcases HT2.out with⟨h1,_,a,h2,rfl,_,h3⟩ | h1
  · exact .inl ⟨h1,h2,tr_of (by omega) (fun p v q1 q2=>⟨q1,by have:=World.block_lt_of_cell? w2 p q2;omega,(hK3 w1.heap.size).2 p v q1 q2⟩) h3⟩
  · exact .inr h1)
 have HX:=Hd (show w.heap.size≤w2.heap.size∧w2.heap.size≠b∧w.heap.size≠w2.heap.size from⟨by omega,by omega,by omega⟩);have hh2:w1.heap.size≤w2.heap.size:=hs2;clear hP3 hR3 hB3 hwr hK3 HT2 HR2 HP2 HB2;generalize hhb:w2.heap.size=hb at *
 cases hc:(!bd && isP withL r1) with
 | false=>
  go_wp2_with fail
  refine(take_no ⟨#[119,105,116,104]⟩ HP3.out hc).mono ?_;rintro x w4 ⟨rfl,hP,hB⟩;have HP4:=Hd hP;have HB4:=Hd (kb_trans HB3.out hB);have HE4:=Hd (HE3.out.kb HX.out.2.1 hB);have HR4:=Hd (HR3.out.kb hgb hB);have HK4:=Hd (Kp.of_kb hB hbB);have hs4:=kb_size hB;clear hP hB
  go_wp2_with fail
  refine(needStep ⟨#[41]⟩ HP4.out).mono ?_;rintro x w5 ⟨rfl,bd5,r5,hP,hB,hN⟩;have HP5:=Hd hP;have HB5:=Hd (kb_trans HB4.out hB);have HE5:=Hd (HE4.out.kb HX.out.2.1 hB);have HR5:=Hd (HR4.out.kb hgb hB);have HK5:=Hd (Kp.of_kb hB hbB);have hs5:=kb_size hB;have HN:=Hd hN;clear hP hB hN
  go_wp2_with (first | (refine wpList_load_row rfl _ _ rfl (hb) rfl _ _ _ _ (HE5.out) Tryz.underlying26 rfl ex_info ?_) | (refine wpList_store_row rfl _ _ _ rfl (w.heap.size) _ rfl rfl _ _ (HR5.out) ex_info rfl (by simp[exA,Value.oneCell']) ?_))
  obtain⟨f1,f2,f3⟩:=(fin_same (x:=e0) (A1:=A2) (ca1:=ca2) (B1:=B2) (cb1:=cb2) HB5.out HP5.out HR5.out hgb (Nat.le_refl _) hA)
  have hG:bd=false∧roundP ar r=(needP [41] r1).bind (fun _ r=>.ok e0 r)∧rdX (tr w1.heap.size hb w3) e0 A2 B2∨bd=true∧roundP ar r=.bad r1:=by
   rcases HT3.out with⟨rfl,h2,h3⟩|⟨rfl,h2⟩
   · have hi:isP withL r1=false:=by simpa using hc
     exact .inl ⟨rfl,by simp[roundP,h2,hi],h3⟩
   · exact .inr ⟨rfl,by simp[roundP,h2]⟩
  rcases inv_step hG HN.out with⟨rfl,⟨u,_,h2⟩,h3⟩|⟨rfl,h2⟩
  · rw[h2];exact bodyPost_ret (res_ex rfl _ _ (w.heap.size) _ rfl rfl f3) rfl ⟨f1,f2,_,_,_,_,rfl,tree_down ((Kp.setRow (B:=w1.heap.size) _ _ (by omega)).tree (tr_fr (Nat.le_refl _) (HK5.out.tr (HK4.out.tr h3)))) (show w.heap.size≤w1.heap.size by omega)⟩
  · rw[h2];exact bodyPost_ret (res_ex rfl _ _ (w.heap.size) _ rfl rfl f3) rfl ⟨f1,f2,_,_,_,_,_,rfl⟩
 | true=>
  have hbd:bd=false:=by cases bd <;> simp at hc ⊢
  subst hbd;have hi:isP withL r1=true:=by simpa using hc
  obtain⟨_,hr1,ht1⟩:=HT3.out.resolve_right (by rintro ⟨h,_⟩;cases h);have HTE:=Hd ht1;have HG0:=Hd (show roundP ar r=(needP [91] r1.tail).bind fun _ r=>(ar r).bind fun i r=>(needP [93] r).bind fun _ r=>(needP [61] r).bind fun _ r=>(ar r).bind fun v r=>(needP [41] r).bind fun _ r=>.ok (Ex.mk 16 0 ByteArray.empty 0 [] [e0,i,v]) r from(round_eq hr1 hi));have hl1:r1.length≤m:=by have:=hla _ _ _ hr1;omega
  have hl2:r1.tail.length≤m:=by have:=tail_less r1;omega
  clear HT3 hc ht1
  go_wp2_with fail
  refine(take_yes ⟨#[119,105,116,104]⟩ HP3.out hi).mono ?_;rintro x w4 ⟨rfl,hP,hB⟩;have HP4:=Hd hP;have HB4:=Hd (kb_trans HB3.out hB);have HE4:=Hd (HE3.out.kb HX.out.2.1 hB);have HR4:=Hd (HR3.out.kb hgb hB);have HK4:=Hd (Kp.of_kb hB hbB);have hs4:=kb_size hB;clear hP hB
  go_wp2_with fail
  refine(needStep ⟨#[91]⟩ HP4.out).mono ?_;rintro x w5 ⟨rfl,bd5,r5,hP,hB,hN⟩;have HP5:=Hd hP;have HB5:=Hd (kb_trans HB4.out hB);have HE5:=Hd (HE4.out.kb HX.out.2.1 hB);have HR5:=Hd (HR4.out.kb hgb hB);have HK5:=Hd (Kp.of_kb hB hbB);have hs5:=kb_size hB;have HI5:=Hd (show bd5=false∧roundP ar r=(ar r5).bind _∧r5.length≤m∨bd5=true∧roundP ar r=.bad r5 from(inv_step (X:=True) (.inl ⟨rfl,HG0.out,trivial⟩) hN).imp (fun⟨a1,⟨u,y,e⟩,x⟩=>⟨a1,e,by omega⟩) id);clear hP hB hN
  go_wp2_with fail
  refine(arrowAny HAR hla HP5.out (fun hq=>(HI5.out.resolve_right (by rintro ⟨h,_⟩;rw[hq] at h;cases h)).2.2)).mono ?_;rintro x w6 ⟨i0,A6,ca6,B6,cb6,bd6,r6,rfl,hP,hB,hT⟩;have HP6:=Hd hP;have HB6:=Hd (kb_trans HB5.out hB);have HE6:=Hd (HE5.out.kb HX.out.2.1 hB);have HR6:=Hd (HR5.out.kb hgb hB);have HK6:=Hd (Kp.of_kb hB hbB);have hs6:=kb_size hB;have HI6:=Hd (show bd6=false∧roundP ar r=(needP [93] r6).bind _∧r6.length≤m∧rdX (fr w5.heap.size w6) i0 A6 B6∨bd6=true∧roundP ar r=.bad r6 from(inv_step HI5.out hT).imp (fun⟨a1,⟨u,⟨y1,y2,y3⟩,e⟩,x⟩=>⟨a1,(by subst y1;exact e),by omega,y3⟩) id);clear hP hB hT;unfold exA
  go_upto_region 5 with(fail)
  generalize hwb:w6.alloc _=w7;obtain⟨hP,hG7,hB,hgi,hg7,hK7⟩:=ex_box HP6.out hwb;have HP7:=Hd hP;have HB7:=Hd (kb_trans HB6.out hB);have HE7:=Hd (HE6.out.kb HX.out.2.1 hB);have HR7:=Hd (HR6.out.kb hgb hB);have HK7:=Hd (Kp.of_kb hB hbB);have hs7:=kb_size hB;have HG7:=Hd hG7;have hlt5:=HE5.out.lt;have HI7:=Hd (show bd6=false∧roundP ar r=(needP [93] r6).bind _∧r6.length≤m∧rdX (tr w1.heap.size hb w7) i0 A6 B6∨bd6=true∧roundP ar r=.bad r6 from HI6.out.imp (fun⟨a1,e,y1,y2⟩=>⟨a1,e,y1,tr_of (by omega) (fun p v q1 q2=>⟨by omega,by omega,(hK7 w5.heap.size).2 p v q1 q2⟩) y2⟩) id);clear hP hB hwb hK7 hG7 HI6
  go_wp2_with fail
  refine(needStep ⟨#[93]⟩ HP7.out).mono ?_;rintro x w8 ⟨rfl,bd8,r8,hP,hB,hN⟩;have HP8:=Hd hP;have HB8:=Hd (kb_trans HB7.out hB);have HE8:=Hd (HE7.out.kb HX.out.2.1 hB);have HR8:=Hd (HR7.out.kb hgb hB);have HK8:=Hd (Kp.of_kb hB hbB);have hs8:=kb_size hB;have HG8:=Hd (HG7.out.kb hgi hB);have HI8:=Hd (show bd8=false∧roundP ar r=(needP [61] r8).bind _∧r8.length≤m∧rdX (tr w1.heap.size hb w8) i0 A6 B6∨bd8=true∧roundP ar r=.bad r8 from(inv_step HI7.out hN).imp (fun⟨a1,⟨u,y,e⟩,x⟩=>⟨a1,e,by omega,HK8.out.tr x.2⟩) id);clear hP hB hN
  go_wp2_with fail
  refine(needStep ⟨#[61]⟩ HP8.out).mono ?_;rintro x w9 ⟨rfl,bd9,r9,hP,hB,hN⟩;have HP9:=Hd hP;have HB9:=Hd (kb_trans HB8.out hB);have HE9:=Hd (HE8.out.kb HX.out.2.1 hB);have HR9:=Hd (HR8.out.kb hgb hB);have HK9:=Hd (Kp.of_kb hB hbB);have hs9:=kb_size hB;have HG9:=Hd (HG8.out.kb hgi hB);have HI9:=Hd (show bd9=false∧roundP ar r=(ar r9).bind _∧r9.length≤m∧rdX (tr w1.heap.size hb w9) i0 A6 B6∨bd9=true∧roundP ar r=.bad r9 from(inv_step HI8.out hN).imp (fun⟨a1,⟨u,y,e⟩,x⟩=>⟨a1,e,by omega,HK9.out.tr x.2⟩) id);have HE0:=Hd (HK9.out.tr (HK8.out.tr (HK7.out.tr (HK6.out.tr (HK5.out.tr (HK4.out.tr HTE.out))))));clear hP hB hN;obtain⟨q0,q1,q2,q3,q4,q5⟩:=HE9.out.cells;obtain⟨p0,p1,p2,p3,p4,p5⟩:=HG9.out.cells;have hlt9:=HE9.out.lt;have HF:=Hd (arrowAnyD HAR hla HP9.out (fun hq=>(HI9.out.resolve_right (by rintro ⟨h,_⟩;rw[hq] at h;cases h)).2.2.1))
  go_wp2_with fail
  go_region_with (first | (go_at_call 30;refine HF.out.mono ?_;rintro x w10 ⟨v0,A10,ca10,B10,cb10,bd10,r10,rfl,hP,hB,hT⟩;have HP10:=Hd hP;have HB10:=Hd (kb_trans HB9.out hB);have HE10:=Hd (HE9.out.kb HX.out.2.1 hB);have HR10:=Hd (HR9.out.kb hgb hB);have HG10:=Hd (HG9.out.kb hgi hB);have HK10:=Hd (Kp.of_kb hB hbB);have HT10:=Hd hT;have hs10:=kb_size hB;clear hP hB hT;obtain⟨d0,d1,d2,d3,d4,d5⟩:=HE10.out.cells;obtain⟨e0',e1',e2',e3',e4',e5'⟩:=HG10.out.cells;have hl10:=HE10.out.lt;have f0:=HE10.out.fz 0;have f1:=HE10.out.fz 1;have f2:=HE10.out.fz 2;have f3:=HE10.out.fz 3;have f4:=HE10.out.fz 4;have f5:=HE10.out.fz 5;unfold exA))
  all_goals (
   have hi10:bd10=false∧roundP ar r=(needP [41] r10).bind (fun _ r=>.ok (.mk 16 0 ByteArray.empty 0 [] [e0,i0,v0]) r)∧(rdX (tr w1.heap.size hb w10) i0 A6 B6∧rdX (tr w1.heap.size hb w10) v0 A10 B10)∨bd10=true∧roundP ar r=.bad r10:=
    (inv_step HI9.out HT10.out).imp (fun⟨a1,⟨u,⟨y1,y2,y3⟩,e⟩,x⟩=>⟨a1,(by subst y1;exact e),HK10.out.tr x.2,tr_of (Nat.le_refl _) (fun p v q1 q2=>⟨by omega,by omega,q2⟩) y3⟩) id
   have HI10:=Hd hi10;obtain⟨z1,z2,z3,z4⟩:=three_box (x:=e0) (y:=i0) (z:=v0) 16 0 (exA3 e0 A2 ca2 B2 cb2 i0 A6 ca6 B6 cb6 v0 A10 ca10 B10 cb10) HB10.out HP10.out HR10.out HE10.out HX.out.2.1 HX.out.2.2 HX.out.1 hA;have hte:=HK10.out.tr HE0.out;have HZ5:=Hd (fun(j1:rdX (tr w1.heap.size hb w10) i0 A6 B6) (j2:rdX (tr w1.heap.size hb w10) v0 A10 B10)=>three_lit (B0:=w1.heap.size) (h:=hb) 16 0 (ca1:=ca2) (cb1:=cb2) (ca2:=ca6) (cb2:=cb6) (ca3:=ca10) (cb3:=cb10) (by omega) hl10 (exA (.mk 16 0 ByteArray.empty 0 [] [e0,i0,v0]) none 0 (some ⟨w10.heap.size,0,none⟩) 3) hte j1 j2);have hsx:=six_set HE10.out (.mk 16 0 ByteArray.empty 0 [] [e0,i0,v0]) none 0 (some ⟨w10.heap.size,0,none⟩) 3;simp only[Ex.k,Ex.n,Ex.s,Ex.op,Ex.arms,Ex.subs,List.length_nil,List.length_cons] at hsx;have hsy:(⟨#[]⟩:ByteArray)=ByteArray.empty:=rfl;simp only[hsy] at *;rw[hsx];clear hsx hi10 hte;have HZ1:=Hd z1;have HZ2:=Hd z2;have HZ3:=Hd z3;have HZ4:=Hd z4;clear z1 z2 z3 z4 d0 d1 d2 d3 d4 d5 f0 f1 f2 f3 f4 f5 q0 q1 q2 q3 q4 q5 p0 p1 p2 p3 p4 p5 e0' e1' e2' e3' e4' e5';unfold exA3 at HZ1 HZ2 HZ3 HZ4 HZ5;generalize hW:World.alloc _ _=W at *;clear hW
   go_wp2_with fail
   refine(needStep ⟨#[41]⟩ HZ2.out).mono ?_;rintro x w12 ⟨rfl,bd12,r12,hP,hB,hN⟩;have HP12:=Hd hP;have HB12:=Hd (kb_trans HZ1.out hB);have HE12:=Hd (HZ4.out.kb HX.out.2.1 hB);have HR12:=Hd (HZ3.out.kb hgb hB);have HK12:=Hd (Kp.of_kb hB hbB);have HN:=Hd hN;clear hP hB hN
   go_wp2_with (first | (refine wpList_load_row rfl _ _ rfl (hb) rfl _ _ _ _ (HE12.out) Tryz.underlying26 rfl ex_info ?_) | (refine wpList_store_row rfl _ _ _ rfl (w.heap.size) _ rfl rfl _ _ (HR12.out) ex_info rfl (by simp[exA,Value.oneCell']) ?_))
   obtain⟨f1,f2,f3⟩:=(fin_same (x:=.mk 16 0 ByteArray.empty 0 [] [e0,i0,v0]) (A1:=none) (ca1:=0) (B1:=some ⟨w10.heap.size,0,none⟩) (cb1:=3) HB12.out HP12.out HR12.out hgb (Nat.le_refl _) hA);rcases inv_step HI10.out HN.out with⟨rfl,⟨u,_,h2⟩,h3⟩|⟨rfl,h2⟩
   · rw[h2];exact bodyPost_ret (res_ex rfl _ _ (w.heap.size) _ rfl rfl f3) rfl ⟨f1,f2,_,_,_,_,rfl,tree_down ((Kp.setRow (B:=w1.heap.size) _ _ (by omega)).tree (tr_fr (Nat.le_refl _) (HK12.out.tr (HZ5.out h3.1 h3.2)))) (show w.heap.size≤w1.heap.size by omega)⟩
   · rw[h2];exact bodyPost_ret (res_ex rfl _ _ (w.heap.size) _ rfl rfl f3) rfl ⟨f1,f2,_,_,_,_,_,rfl⟩)
end
end
end Go.Proofs.YtokiaaapgkdpmaaGreatDoor
