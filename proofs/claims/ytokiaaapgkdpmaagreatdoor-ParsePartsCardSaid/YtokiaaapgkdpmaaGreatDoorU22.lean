/- Parts: PcA. Conditions: each theorem's own. -/
import Derived.Test.YtokiaaapgkdpmaaGreatDoorU21
namespace Go.Proofs.YtokiaaapgkdpmaaGreatDoor
set_option linter.unusedVariables false
set_option linter.unusedSimpArgs false
set_option maxRecDepth 100000
set_option maxHeartbeats 40000000
section
open Go.RowKit Go.Sort
section
variable {w:World}{b:Nat}{A:Option Addr}{n c:Nat}{all r:List Tk}{bad:Bool}{m:Nat}
theorem ex_end{w9:World}{g0:PR Ex}{x zo:Ex}{Az:Option Addr}{caz:Nat}{Bo:Option Addr}{cbz:Nat}{A1:Option Addr}{ca1:Nat}{B1:Option Addr}{cb1:Nat}{bd:Bool}{r9:List Tk}{B0:Nat}
 (hb:Below w.heap.size (bl b w) (bl b w9)) (hp:PSt w9 b A n c all r9 bd) (hr:RowX w9 w.heap.size zo Az caz Bo cbz) (hgb:w.heap.size≠b) (hA:∀ b0 off,A=some ⟨b0,off,none⟩→b0<w.heap.size) (hB:w.heap.size<B0)
 (hG:bd=false∧g0=.ok x r9∧rdX (fr B0 w9) x A1 B1∨bd=true∧g0=.bad r9):
 PostX w b A n c all g0 (.returned (.agg (exA x A1 ca1 B1 cb1))) (w9.setRow w.heap.size (exA x A1 ca1 B1 cb1))∧RowX (w9.setRow w.heap.size (exA x A1 ca1 B1 cb1)) w.heap.size x A1 ca1 B1 cb1:=by
 obtain⟨f1,f2,f3⟩:=fin_same (x:=x) (A1:=A1) (ca1:=ca1) (B1:=B1) (cb1:=cb1) hb hp hr hgb (Nat.le_refl _) hA;refine⟨?_,f3⟩;rcases hG with⟨rfl,h2,h3⟩|⟨rfl,h2⟩
 · rw[h2];exact⟨f1,f2,_,_,_,_,rfl,tree_down ((Kp.setRow (B:=B0) _ _ hB).tree h3) (Nat.le_of_lt hB)⟩
 · rw[h2];exact⟨f1,f2,_,_,_,_,_,rfl⟩
theorem set_five{W:World}{h:Nat}{k n1:Int}{s:ByteArray}{op:Int}{ar:List ByteArray}{l l':List Ex}{A1:Option Addr}{ca1:Nat}{B1:Option Addr}{cb1:Nat}(he:RowX W h (.mk k n1 s op ar l) A1 ca1 B1 cb1)(B2:Option Addr)(kk cb2:Nat)(hl:l'.length=kk):
 W.setCell ⟨h,5,none⟩ (.slice B2 kk cb2)=W.setRow h (exA (.mk k n1 s op ar l') A1 ca1 B2 cb2):=by
 subst hl;rw[setCell_eq_setRow _ _ _ _ _ _ _ he];rfl
theorem set_four{W:World}{h:Nat}{k n1:Int}{s:ByteArray}{op:Int}{ar ar':List ByteArray}{l:List Ex}{A1:Option Addr}{ca1:Nat}{B1:Option Addr}{cb1:Nat}(he:RowX W h (.mk k n1 s op ar l) A1 ca1 B1 cb1)(A2:Option Addr)(kk ca2:Nat)(hl:ar'.length=kk):
 W.setCell ⟨h,4,none⟩ (.slice A2 kk ca2)=W.setRow h (exA (.mk k n1 s op ar' l) A2 ca2 B1 cb1):=by
 subst hl;rw[setCell_eq_setRow _ _ _ _ _ _ _ he];rfl
theorem set_one{W:World}{h:Nat}{k n1:Int}{s:ByteArray}{op:Int}{ar:List ByteArray}{l:List Ex}{A1:Option Addr}{ca1:Nat}{B1:Option Addr}{cb1:Nat}(he:RowX W h (.mk k n1 s op ar l) A1 ca1 B1 cb1)(n2:Int):
 W.setCell ⟨h,1,none⟩ (.int .i64 n2)=W.setRow h (exA (.mk k n2 s op ar l) A1 ca1 B1 cb1):=by
 rw[setCell_eq_setRow _ _ _ _ _ _ _ he];rfl
theorem own_set{W:World}{h base k:Nat}{v:Value}{e:TypeId}{size:Nat}{xs:List Value}(ho:W.ownsRow base e size v k xs)(hn:∀ g,v.ownBlock=some g→g≠h)(cs:Array Value):(W.setRow h cs).ownsRow base e size v k xs:=by
 refine⟨ho.1,?_⟩;rcases ho.2 with h1 | ⟨g,cap,cur,e1,hg2,hh,r2⟩
 · exact .inl h1
 · exact .inr ⟨g,cap,cur,e1,hg2,(setRow_other _ _ _ _ (hn g (by rw[e1];rfl))).trans hh,r2⟩
theorem RowX.grown{w':World}{row:Option Nat}{h:Nat}{x:Ex}{A1:Option Addr}{ca1:Nat}{B1:Option Addr}{cb1:Nat}(k:RowX w h x A1 ca1 B1 cb1)(hg:w.grownBy w' row)(hn:row≠some h):RowX w' h x A1 ca1 B1 cb1:=
 (hg.block h k.lt (fun e=>hn e.symm)).trans k
def CallAt(w w2 w5:World)(b hb:Nat)(A:Option Addr)(n c m:Nat)(all:List Tk)(po:Psr)(sl:List UInt8)(g0:PR Ex):Prop:=
 ∃ (bd:Bool) (l:List Ex) (kk:Nat) (B5:Option Addr) (c5:Nat) (cs:List Value) (r4:List Tk),l.length=kk∧kk≤m+1∧PSt w5 b A n c all r4 bd∧Below w.heap.size (bl b w) (bl b w5)∧RowX w5 hb (.mk 13 0 (ofB sl) 0 [] l) none 0 B5 c5∧RowX w5 w.heap.size zX none 0 none 0 ∧
  w5.ownsRow w2.heap.size 26 6 (.slice B5 kk c5) kk cs∧(bd=false∧g0=everyP po sl l r4∧r4.length≤m∧flX (fx w2.heap.size (Value.slice B5 kk c5).ownBlock.toList w5) l cs∨bd=true∧g0=.bad r4)∧w2.heap.size≤w5.heap.size
theorem own_base{W:World}{base base2 k:Nat}{v:Value}{e:TypeId}{size:Nat}{xs:List Value}(ho:W.ownsRow base2 e size v k xs)(h:base≤base2):W.ownsRow base e size v k xs:=by
 refine⟨ho.1,?_⟩;rcases ho.2 with h1 | ⟨g,cap,cur,e1,hg2,r2⟩
 · exact .inl h1
 · exact .inr ⟨g,cap,cur,e1,Nat.le_trans h hg2,r2⟩
theorem fl_low{B B2:Nat}{N:List Nat}{W:World}{l:List Ex}{cs:List Value}(h:flX (fx B2 N W) l cs)(hB:B≤B2):flX (fx B N W) l cs:=
 flT_up (by rw[fx_size,fx_size];exact Nat.le_refl _) (fun p v hp=>by
  obtain⟨h1,h2,h3⟩:=fx_some hp;rw[fx_cell (by omega) h3];exact h1) h
theorem call_step{w2 w7 w8 w9:World}{hb g9 c9 kk c5:Nat}{cs:List Value}{l:List Ex}{sl:List UInt8}{po:Psr}{g0:PR Ex}{r6 r8:List Tk}{bd8:Bool}{y:Ex}{B5 A8:Option Addr}{ca8:Nat}{B8:Option Addr}{cb8:Nat}{o:Obj}
 (hgb:w.heap.size≠b) (hx:w.heap.size≤hb∧hb≠b∧w.heap.size≠hb∧hb<w2.heap.size) (hA:∀ b0 off,A=some ⟨b0,off,none⟩→b0<w.heap.size) (hwB:w.heap.size<w2.heap.size) (hbB:b<w2.heap.size)
 (hob:∀ g,(Value.slice B5 kk c5).ownBlock=some g→g≠b) (hoh:∀ g,(Value.slice B5 kk c5).ownBlock=some g→g≠hb) (hln:l.length=kk)
 (hfl:flX (fx w2.heap.size (Value.slice B5 kk c5).ownBlock.toList w7) l cs) (hs8:w7.heap.size≤w8.heap.size) (hK:Kp w2.heap.size w7 w8) (hP8:PSt w8 b A n c all r8 bd8) (hB8:Below w.heap.size (bl b w) (bl b w8)) (hE9:RowX w9 hb (.mk 13 1 (ofB sl) 0 [] l) none 0 B5 c5) (hR8:RowX w8 w.heap.size zX none 0 none 0)
 (hg0:g0=(po r6).bind fun y r=>.ok (Ex.mk 13 1 (ofB sl) 0 [] (l++[y])) r)
 (hy:bd8=false∧po r6=.ok y r8∧rdX (fr w7.heap.size w8) y A8 B8∨bd8=true∧po r6=.bad r8)
 (hown:w9.ownsRow w2.heap.size 26 6 (.slice (some ⟨g9,0,none⟩) (kk+1) c9) (kk+1) (cs++exL y A8 ca8 B8 cb8)) (hgr:(w8.alloc o).grownBy w9 (Value.slice B5 kk c5).ownBlock) (hat:(Value.slice B5 kk c5).ownBlock=some g9∨g9=(w8.alloc o).heap.size)
 (hbase:∀ g,(Value.slice B5 kk c5).ownBlock=some g→w2.heap.size≤g∧g<w7.heap.size) (hkk:kk≤2000000) (h27:w2.heap.size≤w7.heap.size):
 let W:=w9.setRow hb (exA (.mk 13 1 (ofB sl) 0 [] (l++[y])) none 0 (some ⟨g9,0,none⟩) c9)
 Below w.heap.size (bl b w) (bl b W)∧PSt W b A n c all r8 bd8∧RowX W hb (.mk 13 1 (ofB sl) 0 [] (l++[y])) none 0 (some ⟨g9,0,none⟩) c9∧RowX W w.heap.size zX none 0 none 0 ∧
  (bd8=false∧g0=.ok (.mk 13 1 (ofB sl) 0 [] (l++[y])) r8∧rdX (fr w2.heap.size W) (.mk 13 1 (ofB sl) 0 [] (l++[y])) none (some ⟨g9,0,none⟩)∨bd8=true∧g0=.bad r8):=by
 intro W;have hP9:PSt w9 b A n c all r8 bd8:=(hP8.alloc o).grown hgr (fun e=>hob b e rfl) (fun b0 off e e2=>by have:=hA b0 off e;have:=(hbase b0 e2).1;omega);have hB9:=kb_grown (kb_alloc hB8 hP8.lt o) hgr (fun k e=>by have:=(hbase k e).1;omega);have hR9:RowX w9 w.heap.size zX none 0 none 0:=(hR8.alloc o).grown hgr (fun e=>by have:=(hbase _ e).1;omega);have hsz:w8.heap.size<(w8.alloc o).heap.size:=by simp
 have hs9:=hgr.size;refine⟨kb_setRow hB9 hx.2.1 hx.1 _,hP9.setRow hx.2.1 (fun b0 off e=>by have:=hA b0 off e;omega) _,hE9.set,hR9.other hx.2.2.1 _,?_⟩;rcases hy with⟨h1,h2,h3⟩|⟨h1,h2⟩
 · refine .inl ⟨h1,by rw[hg0,h2];rfl,?_⟩
   have hkeep:∀ p v,(Value.slice B5 kk c5).ownBlock≠some p.block→w2.heap.size≤p.block→w8.cell? p=some v→W.cell? p=some v:=fun p v hp hp2 hv=>by
    have hlt:=World.block_lt_of_cell? w8 p hv
    show(w9.setRow hb _).cell? p=some v
    rw[cell_setRow_other _ _ _ _ (by omega),hgr.cell_far p (by omega) (fun e=>hp e.symm),World.cell?_alloc_lt _ _ _ hlt];exact hv
   have hN:∀ k∈[g9],k∈(Value.slice B5 kk c5).ownBlock.toList∨w8.heap.size≤k:=fun k hk=>by
    rw[List.mem_singleton] at hk;subst hk;rcases hat with h4 | h4
    · exact .inl (by rw[h4];simp)
    · exact .inr (by omega)
   have hWs:W.heap.size=w9.heap.size:=setRow_size _ _ _
   have hf:flX (fx w2.heap.size [g9] W) (l++[y]) (cs++exL y A8 ca8 B8 cb8):=by
    refine flX_app ?_ (flX_one ?_)
    · exact fl_move hfl (by omega) (fun p v q1 q2 q3=>hkeep p v (fun e=>q2 (by rw[e];simp)) q1 (hK.2 p v q1 q3)) (fun k hk=>(hN k hk).imp id (fun h=>by omega))
    · refine tree_in h3 h27 (fun k hk=>?_) (by omega) (fun p v q1 q2=>hkeep p v (fun e=>by have:=(hbase _ e).2;omega) (by omega) q2);rcases hN k hk with h5 | h5
      · rw[Option.mem_toList] at h5;exact .inl (hbase k h5).2
      · exact .inr h5
   have ho:W.ownsRow w2.heap.size 26 6 (.slice (some ⟨g9,0,none⟩) (kk+1) c9) (kk+1) (cs++exL y A8 ca8 B8 cb8):=own_set hown (fun g e=>by have:=(hown.lt g e).1;omega) _;have h6:=row_rd (B2:=w2.heap.size) ho (show(l++[y]).length=kk+1 by simp[hln]) hf (Nat.le_refl _) (by omega);rw[rdX_eq];refine⟨RdT.nil_ _,?_⟩;have h7:(Ex.mk 13 1 (ofB sl) 0 [] (l++[y])).subs.length=kk+1:=by simp[Ex.subs,hln]
   rw[h7];exact h6
 · exact .inr ⟨h1,by rw[hg0,h2];rfl⟩
theorem prCall(ar po:Psr)(sl:List UInt8)(HAR:SpecX 30 ar m)(hla:Less ar)(HPO:SpecX 172 po m)(hm:m≤1000000)(h:PSt w b A n c all r false)(hr:r.length≤m):
 Calls Tryz.prog 195 #[.pointer (some ⟨b,0,none⟩),.string (ofB sl)] w (PostX w b A n c all (callP ar po sl r)):=by
 obtain⟨i0,hi0,hz0,hz1,hz2⟩:=infoEx;have hA:=Hd h.home;have hlt:=h.lt
 go_enter Tryz.func195,Tryz.ntmps195
 go_upto_region 1 with(fail)
 generalize hw1:w.alloc _=w1;obtain⟨hP1,hR1,hB1,hgb,hg1⟩:=res_box h hw1;have HP1:=Hd hP1;have HR1:=Hd hR1;have HB1:=Hd hB1;clear hP1 hR1 hB1 hw1
 go_upto_region 2 with(fail)
 generalize hw2:w1.alloc _=w2;obtain⟨hP,hE,hB,hgb2,hg2,_⟩:=ex_box (x:=.mk 13 0 (ofB sl) 0 [] []) (A1:=none) (ca1:=0) (B1:=none) (cb1:=0) HP1.out hw2;have HP2:=Hd hP;have HE2:=Hd hE;have HB2:=Hd (kb_trans HB1.out hB);have HR2:=Hd (HR1.out.kb hgb hB);clear hP hE hB hw2 h;have hw2g:=hg2;have hwB:w.heap.size<w2.heap.size:=by omega
 have hbB:b<w2.heap.size:=by omega
 have HX:=Hd (show w.heap.size≤w1.heap.size∧w1.heap.size≠b∧w.heap.size≠w1.heap.size∧w1.heap.size<w2.heap.size from⟨by omega,by omega,by omega,by omega⟩);generalize hhb:w1.heap.size=hb at *
 cases hi:isP [41] r with
 | true=>
  go_wp2_with fail
  refine(take_yes ⟨#[41]⟩ HP2.out hi).mono ?_;rintro x w5 ⟨rfl,hP,hB⟩;have HP5:=Hd hP;have HB5:=Hd (kb_trans HB2.out hB);have HE5:=Hd (HE2.out.kb HX.out.2.1 hB);have HR5:=Hd (HR2.out.kb hgb hB);have hs5:=kb_size hB;clear hP hB
  go_upto_region 4 with(fail)
  have h5:CallAt w w2 w5 b hb A n c m all po sl (callP ar po sl r):=by
   refine⟨false,[],0,none,0,[],r.tail,rfl,by omega,HP5.out,HB5.out,HE5.out,HR5.out,World.ownsRow_nil w5 w2.heap.size 26 6,.inl ⟨rfl,by rw[callP,if_pos hi],by have:=tail_less r;omega,rfl⟩,hs5⟩
  clear HP5 HB5 HE5 HR5 hs5;obtain⟨bd,l,kk,B5,c5,cs,r4,hln,hkk,hP,hB,hE,hR,hO,hT,hs5⟩:=h5;have HLN:=Hd hln;have HP5:=Hd hP;have HB5:=Hd hB;have HE5:=Hd hE;have HR5:=Hd hR;have HO5:=Hd hO;have HT5:=Hd hT;have HBS:=Hd fun g (e:(Value.slice B5 kk c5).ownBlock=some g)=>hO.lt g e;have HOB:=Hd (show ∀ g,(Value.slice B5 kk c5).ownBlock=some g→g≠b from fun g e=>by have:=(HBS.out g e).1;omega);have HOH:=Hd (show ∀ g,(Value.slice B5 kk c5).ownBlock=some g→g≠hb from fun g e=>by have:=(HBS.out g e).1;have:=HX.out.2.2.2;omega);clear hln hP hB hE hR hO hT
  cases hc:(!bd && isP everyL r4) with
  | false=>
   go_wp2_with fail
   refine(take_no ⟨#[101,118,101,114,121]⟩ HP5.out hc).mono ?_;rintro x w6 ⟨rfl,hP,hB⟩;have HP6:=Hd hP;have HB6:=Hd (kb_trans HB5.out hB);have HE6:=Hd (HE5.out.kb HX.out.2.1 hB);have HR6:=Hd (HR5.out.kb hgb hB);have HK6:=Hd (Kp.of_kb hB hbB);have HO6:=Hd (own_kb HO5.out HOB.out hB);clear hP hB
   go_wp2_with (first | (refine wpList_load_row rfl _ _ rfl (hb) rfl _ _ _ _ (HE6.out) Tryz.underlying26 rfl ex_info ?_) | (refine wpList_store_row rfl _ _ _ rfl (w.heap.size) _ rfl rfl _ _ (HR6.out) ex_info rfl (by simp[exA,Value.oneCell']) ?_))
   have hG:bd=false∧callP ar po sl r=.ok (.mk 13 0 (ofB sl) 0 [] l) r4∧rdX (fr w2.heap.size w6) (.mk 13 0 (ofB sl) 0 [] l) none B5∨bd=true∧callP ar po sl r=.bad r4:=by
    rcases HT5.out with⟨h1,h2,h3,h4⟩ | h1
    · subst h1;have hi:isP everyL r4=false:=by simpa using hc
      refine .inl ⟨rfl,by rw[h2,everyP,if_neg (by rw[hi];simp)],?_⟩;rw[rdX_eq];have h6:=row_rd (B2:=w2.heap.size) HO6.out HLN.out (fl_move h4 HK6.out.1 (fun p v q1 _ q3=>HK6.out.2 p v q1 q3) (fun k hk=>.inl hk)) (Nat.le_refl _) (by omega);rw[← HLN.out] at h6;exact⟨RdT.nil_ _,h6⟩
    · exact .inr h1
   obtain⟨f1,f3⟩:=ex_end (ca1:=0) (cb1:=c5) HB6.out HP6.out HR6.out hgb hA.out hwB hG;exact bodyPost_ret (res_ex rfl _ _ (w.heap.size) _ rfl rfl f3) rfl f1
  | true=>
   have hbd:bd=false:=by revert hc;cases bd <;> simp
   (try subst hbd)
   have hi:isP everyL r4=true:=by simpa using hc
   obtain⟨_,h2,h3,h4⟩:=HT5.out.resolve_right (by rintro ⟨h,_⟩;cases h);have HG0:=Hd (show callP ar po sl r=(po r4.tail).bind fun y r=>.ok (Ex.mk 13 1 (ofB sl) 0 [] (l++[y])) r from by rw[h2,everyP,if_pos hi]);have HFL:=Hd h4;have hl6:r4.tail.length≤m:=by have:=tail_less r4;omega
   clear h2 h4 hc
   go_wp2_with fail
   refine(take_yes ⟨#[101,118,101,114,121]⟩ HP5.out hi).mono ?_;rintro x w6 ⟨rfl,hP,hB⟩;have HP6:=Hd hP;have HB6:=Hd (kb_trans HB5.out hB);have HE6:=Hd (HE5.out.kb HX.out.2.1 hB);have HR6:=Hd (HR5.out.kb hgb hB);have HK6:=Hd (Kp.of_kb hB hbB);have HO6:=Hd (own_kb HO5.out HOB.out hB);have hs6:=kb_size hB;have p1:=HE6.out.cells.2.1;have f1:=HE6.out.fz 1;have l1:=HE6.out.lt;clear hP hB
   go_upto_region 6 with(fail)
   rw[set_one HE6.out 1];generalize hw7:w6.setRow hb _=w7
   have h7:PSt w7 b A n c all r4.tail false∧Below w.heap.size (bl b w) (bl b w7)∧RowX w7 hb (.mk 13 1 (ofB sl) 0 [] l) none 0 B5 c5∧RowX w7 w.heap.size zX none 0 none 0∧w7.ownsRow w2.heap.size 26 6 (.slice B5 kk c5) kk cs∧flX (fx w2.heap.size (Value.slice B5 kk c5).ownBlock.toList w7) l cs∧w6.heap.size≤w7.heap.size:=by
    subst hw7;refine⟨HP6.out.setRow HX.out.2.1 (fun b0 off e=>by have:=hA.out b0 off e;have:=HX.out.1;omega) _,kb_setRow HB6.out HX.out.2.1 HX.out.1 _,HE6.out.set,HR6.out.other HX.out.2.2.1 _,own_set HO6.out HOH.out _,?_,by rw[setRow_size];exact Nat.le_refl _⟩;exact fl_move HFL.out (by rw[setRow_size];exact HK6.out.1) (fun p v q1 _ q3=>by rw[cell_setRow_other _ _ _ _ (by have:=HX.out.2.2.2;omega)];exact HK6.out.2 p v q1 q3) (fun k hk=>.inl hk)
   obtain⟨hP,hB,hE,hR,hO,hF,hs7⟩:=h7;have HP7:=Hd hP;have HB7:=Hd hB;have HE7:=Hd hE;have HR7:=Hd hR;have HO7:=Hd hO;have HF7:=Hd hF;have v5:w7.cell? ⟨hb,5,none⟩=some (.slice B5 kk c5):=by have h:=hE.cells.2.2.2.2.2;simp only[Ex.subs] at h;rwa [HLN.out] at h
   have l7:=hE.lt;clear hP hB hE hR hO hF hw7 p1 f1 l1;refine wp_region_held_drew (S:=(fun _=>True)) (by kernel_rfl) ?_ (fun hHeld=>?_)
   · exact trivial
   refine wpAnyH_take (i:=0) (oi:=?oi6) (v:=.pointer (some ⟨hb,5,none⟩)) ?h1x6 (by kernel_rfl) ?h3x6 (by kernel_rfl) ?h5x6 (Or.inl ⟨?h6x6,?h7x6⟩) hHeld ?h8x6
   case h1x6=>
    simp only[Ya,Yb,Yc];rfl
   case h3x6=>kernel_rfl
   case h5x6=>exact fun _ _ _ h=>h
   case h6x6=>rfl
   case h7x6=>
    intro W hSW
    (try dsimp only at hSW)
    go_split_ands
    first | (go_simp;done) | (go_simp;with_reducible rfl)
   (try simp only[Act.put,Yd,Ye,Yf])
   refine wpAnyH_take (i:=2) (oi:=?oi7) (v:=.pointer (some ⟨b,0,none⟩)) ?h1x7 (by kernel_rfl) ?h3x7 (by kernel_rfl) ?h5x7 (Or.inl ⟨?h6x7,?h7x7⟩) hHeld ?h8x7
   case h1x7=>
    simp only[Ya,Yb,Yc];rfl
   case h3x7=>kernel_rfl
   case h5x7=>exact fun _ _ _ h=>h
   case h6x7=>rfl
   case h7x7=>
    intro W hSW
    (try dsimp only at hSW)
    go_split_ands
    first | (go_simp;done) | (go_simp;with_reducible rfl)
   (try simp only[Act.put,Yd,Ye,Yf])
   refine wpAnyH_ready (rs:=[1,3]) (by kernel_rfl) (by simp) ?_;refine AllReadyH.cons (by rfl) (fun K hK=>?_) ?_
   · go_simp
     refine hK.out _ _ ?_ (fun hHeld=>?_)
     · exact trivial
     clear hK K
     (try simp only[Act.put,Yd,Ye,Yf])
     refine wpAnyH_ready (rs:=[3]) (by kernel_rfl) (by simp) ?_;refine AllReadyH.cons (by rfl) (fun K hK=>?_) ?_
     · go_simp
       go_at_call 172
       refine(SpecX.anyD HPO HP7.out hl6).mono ?_;rintro x w8 ⟨y,A8,ca8,B8,cb8,bd8,r8,rfl,hP,hB,hT⟩;have HP8:=Hd hP;have HB8:=Hd (kb_trans HB7.out hB);have HE8:=Hd (HE7.out.kb HX.out.2.1 hB);have HR8:=Hd (HR7.out.kb hgb hB);have HO8:=Hd (own_kb HO7.out HOB.out hB);have HK8:=Hd (Kp.of_kb hB hbB);have HT8:=Hd hT;have hs8:=kb_size hB;have w5':w8.cell? ⟨hb,5,none⟩=some (.slice B5 kk c5):=by have h:=HE8.out.cells.2.2.2.2.2;simp only[Ex.subs] at h;rwa [HLN.out] at h
       have l8:=HE8.out.lt;clear hP hB hT;unfold exA;refine hK.out _ _ ?_ (fun hHeld=>?_)
       · exact trivial
       clear hK K
       (try simp only[Act.put,Yd,Ye,Yf])
       refine wpAnyH_ready (rs:=[4]) (by kernel_rfl) (by simp) ?_;refine AllReadyH.cons (by rfl) (fun K hK=>?_) ?_
       · go_simp
         refine hK.out _ _ ?_ (fun hHeld=>?_)
         · exact trivial
         clear hK K
         (try simp only[Act.put,Yd,Ye,Yf])
         refine wpAnyH_ready (rs:=[5]) (by kernel_rfl) (by simp) ?_;refine AllReadyH.cons (by rfl) (fun K hK=>?_) ?_
         · refine step_append_lies _ (by rfl) _ _ _ (by rfl) w2.heap.size 26 i0 _ 6 88 Tryz.underlying24 hi0 hz1 hz0 hz2 rfl (by decide) (.slice B5 kk c5) kk cs (by rfl) (own_alloc HO8.out _) ⟨w8.heap.size,0,none⟩ 1 1 (exL y A8 ca8 B8 cb8) (by rfl) rfl (fun j u hu=>World.news_of_block (heap_alloc_new _ _) j u hu) (exL_one _ _ _ _ _) (by omega) (by unfold maxLen;omega) (by omega) (by simp;omega) _ rfl ?_;intro g9 c9 w9 hown9 hgr9 hat9 hlt9;have HOW9:=Hd hown9;have HG9:=Hd hgr9;have HAT9:=Hd hat9;have hE9:RowX w9 hb (.mk 13 1 (ofB sl) 0 [] l) none 0 B5 c5:=(HE8.out.alloc _).grown hgr9 (fun e=>HOH.out hb e rfl);have HE9:=Hd hE9;have y5:w9.cell? ⟨hb,5,none⟩=some (.slice B5 kk c5):=by have h:=hE9.cells.2.2.2.2.2;simp only[Ex.subs] at h;rwa [HLN.out] at h
           have z5:=hE9.fz 5;clear hown9 hgr9 hat9 hE9;refine hK.out _ _ ?_ (fun hHeld=>?_)
           · exact trivial
           clear hK K
           (try simp only[Act.put,Yd,Ye,Yf])
           refine wpAnyH_take (i:=6) (oi:=?oi8) (v:=.pointer (some ⟨hb,5,none⟩)) ?h1x8 (by kernel_rfl) ?h3x8 (by kernel_rfl) ?h5x8 (Or.inl ⟨?h6x8,?h7x8⟩) hHeld ?h8x8
           case h1x8=>
            simp only[Ya,Yb,Yc];rfl
           case h3x8=>kernel_rfl
           case h5x8=>exact fun _ _ _ h=>h
           case h6x8=>rfl
           case h7x8=>
            intro W hSW
            (try dsimp only at hSW)
            go_split_ands
            first | (go_simp;done) | (go_simp;with_reducible rfl)
           (try simp only[Act.put,Yd,Ye,Yf])
           refine wpAnyH_ready (rs:=[7]) (by kernel_rfl) (by simp) ?_;refine AllReadyH.cons (by rfl) (fun K hK=>?_) ?_
           · go_simp
             refine hK.out _ _ ?_ (fun hHeld=>?_)
             · exact trivial
             clear hK K
             (try simp only[Act.put,Yd,Ye,Yf])
             refine wpAnyH_done (by kernel_rfl) ?_ _
             go_upto_region 7 with(fail)
             rw[set_five HE9.out (l':=l++[y]) (some ⟨g9,0,none⟩) (kk+1) c9 (by rw[List.length_append,HLN.out];rfl)];have hX:=call_step (sl:=sl) hgb HX.out hA.out hwB hbB HOB.out HOH.out HLN.out HF7.out hs8 HK8.out HP8.out HB8.out HE9.out HR8.out HG0.out HT8.out HOW9.out HG9.out HAT9.out (fun g e=>by have:=HBS.out g e;omega) (by omega) (by omega);generalize hw10:w9.setRow hb _=w10 at *;obtain⟨hB10,hP10,hE10,hR10,hG10⟩:=hX;have HE10:=Hd hE10;have HR10:=Hd hR10;clear y5 z5 hw10
             go_wp2_with (first | (refine wpList_load_row rfl _ _ rfl (hb) rfl _ _ _ _ (HE10.out) Tryz.underlying26 rfl ex_info ?_) | (refine wpList_store_row rfl _ _ _ rfl (w.heap.size) _ rfl rfl _ _ (HR10.out) ex_info rfl (by simp[exA,Value.oneCell']) ?_))
             obtain⟨f1,f3⟩:=ex_end (ca1:=0) (cb1:=c9) hB10 hP10 hR10 hgb hA.out hwB hG10;exact bodyPost_ret (res_ex rfl _ _ (w.heap.size) _ rfl rfl f3) rfl f1
           exact AllReadyH.nil
         exact AllReadyH.nil
       exact AllReadyH.nil
     exact AllReadyH.nil
   refine AllReadyH.cons (by rfl) (fun K hK=>?_) ?_
   · go_simp
     go_at_call 172
     refine(SpecX.anyD HPO HP7.out hl6).mono ?_;rintro x w8 ⟨y,A8,ca8,B8,cb8,bd8,r8,rfl,hP,hB,hT⟩;have HP8:=Hd hP;have HB8:=Hd (kb_trans HB7.out hB);have HE8:=Hd (HE7.out.kb HX.out.2.1 hB);have HR8:=Hd (HR7.out.kb hgb hB);have HO8:=Hd (own_kb HO7.out HOB.out hB);have HK8:=Hd (Kp.of_kb hB hbB);have HT8:=Hd hT;have hs8:=kb_size hB;have w5':w8.cell? ⟨hb,5,none⟩=some (.slice B5 kk c5):=by have h:=HE8.out.cells.2.2.2.2.2;simp only[Ex.subs] at h;rwa [HLN.out] at h
     have l8:=HE8.out.lt;clear hP hB hT;unfold exA;refine hK.out _ _ ?_ (fun hHeld=>?_)
     · exact trivial
     clear hK K
     (try simp only[Act.put,Yd,Ye,Yf])
     refine wpAnyH_ready (rs:=[1,4]) (by kernel_rfl) (by simp) ?_;refine AllReadyH.cons (by rfl) (fun K hK=>?_) ?_
     · go_simp
       refine hK.out _ _ ?_ (fun hHeld=>?_)
       · exact trivial
       clear hK K
       (try simp only[Act.put,Yd,Ye,Yf])
       refine wpAnyH_ready (rs:=[4]) (by kernel_rfl) (by simp) ?_;refine AllReadyH.cons (by rfl) (fun K hK=>?_) ?_
       · go_simp
         refine hK.out _ _ ?_ (fun hHeld=>?_)
         · exact trivial
         clear hK K
         (try simp only[Act.put,Yd,Ye,Yf])
         refine wpAnyH_ready (rs:=[5]) (by kernel_rfl) (by simp) ?_;refine AllReadyH.cons (by rfl) (fun K hK=>?_) ?_
         · refine step_append_lies _ (by rfl) _ _ _ (by rfl) w2.heap.size 26 i0 _ 6 88 Tryz.underlying24 hi0 hz1 hz0 hz2 rfl (by decide) (.slice B5 kk c5) kk cs (by rfl) (own_alloc HO8.out _) ⟨w8.heap.size,0,none⟩ 1 1 (exL y A8 ca8 B8 cb8) (by rfl) rfl (fun j u hu=>World.news_of_block (heap_alloc_new _ _) j u hu) (exL_one _ _ _ _ _) (by omega) (by unfold maxLen;omega) (by omega) (by simp;omega) _ rfl ?_;intro g9 c9 w9 hown9 hgr9 hat9 hlt9;have HOW9:=Hd hown9;have HG9:=Hd hgr9;have HAT9:=Hd hat9;have hE9:RowX w9 hb (.mk 13 1 (ofB sl) 0 [] l) none 0 B5 c5:=(HE8.out.alloc _).grown hgr9 (fun e=>HOH.out hb e rfl);have HE9:=Hd hE9;have y5:w9.cell? ⟨hb,5,none⟩=some (.slice B5 kk c5):=by have h:=hE9.cells.2.2.2.2.2;simp only[Ex.subs] at h;rwa [HLN.out] at h
           have z5:=hE9.fz 5;clear hown9 hgr9 hat9 hE9;refine hK.out _ _ ?_ (fun hHeld=>?_)
           · exact trivial
           clear hK K
           (try simp only[Act.put,Yd,Ye,Yf])
           refine wpAnyH_take (i:=6) (oi:=?oi9) (v:=.pointer (some ⟨hb,5,none⟩)) ?h1x9 (by kernel_rfl) ?h3x9 (by kernel_rfl) ?h5x9 (Or.inl ⟨?h6x9,?h7x9⟩) hHeld ?h8x9
           case h1x9=>
            simp only[Ya,Yb,Yc];rfl
           case h3x9=>kernel_rfl
           case h5x9=>exact fun _ _ _ h=>h
           case h6x9=>rfl
           case h7x9=>
            intro W hSW
            (try dsimp only at hSW)
            go_split_ands
            first | (go_simp;done) | (go_simp;with_reducible rfl)
           (try simp only[Act.put,Yd,Ye,Yf])
           refine wpAnyH_ready (rs:=[7]) (by kernel_rfl) (by simp) ?_;refine AllReadyH.cons (by rfl) (fun K hK=>?_) ?_
           · go_simp
             refine hK.out _ _ ?_ (fun hHeld=>?_)
             · exact trivial
             clear hK K
             (try simp only[Act.put,Yd,Ye,Yf])
             refine wpAnyH_done (by kernel_rfl) ?_ _
             go_upto_region 7 with(fail)
             rw[set_five HE9.out (l':=l++[y]) (some ⟨g9,0,none⟩) (kk+1) c9 (by rw[List.length_append,HLN.out];rfl)];have hX:=call_step (sl:=sl) hgb HX.out hA.out hwB hbB HOB.out HOH.out HLN.out HF7.out hs8 HK8.out HP8.out HB8.out HE9.out HR8.out HG0.out HT8.out HOW9.out HG9.out HAT9.out (fun g e=>by have:=HBS.out g e;omega) (by omega) (by omega);generalize hw10:w9.setRow hb _=w10 at *;obtain⟨hB10,hP10,hE10,hR10,hG10⟩:=hX;have HE10:=Hd hE10;have HR10:=Hd hR10;clear y5 z5 hw10
             go_wp2_with (first | (refine wpList_load_row rfl _ _ rfl (hb) rfl _ _ _ _ (HE10.out) Tryz.underlying26 rfl ex_info ?_) | (refine wpList_store_row rfl _ _ _ rfl (w.heap.size) _ rfl rfl _ _ (HR10.out) ex_info rfl (by simp[exA,Value.oneCell']) ?_))
             obtain⟨f1,f3⟩:=ex_end (ca1:=0) (cb1:=c9) hB10 hP10 hR10 hgb hA.out hwB hG10;exact bodyPost_ret (res_ex rfl _ _ (w.heap.size) _ rfl rfl f3) rfl f1
           exact AllReadyH.nil
         exact AllReadyH.nil
       exact AllReadyH.nil
     refine AllReadyH.cons (by rfl) (fun K hK=>?_) ?_
     · go_simp
       refine hK.out _ _ ?_ (fun hHeld=>?_)
       · exact trivial
       clear hK K
       (try simp only[Act.put,Yd,Ye,Yf])
       refine wpAnyH_ready (rs:=[1]) (by kernel_rfl) (by simp) ?_;refine AllReadyH.cons (by rfl) (fun K hK=>?_) ?_
       · go_simp
         refine hK.out _ _ ?_ (fun hHeld=>?_)
         · exact trivial
         clear hK K
         (try simp only[Act.put,Yd,Ye,Yf])
         refine wpAnyH_ready (rs:=[5]) (by kernel_rfl) (by simp) ?_;refine AllReadyH.cons (by rfl) (fun K hK=>?_) ?_
         · refine step_append_lies _ (by rfl) _ _ _ (by rfl) w2.heap.size 26 i0 _ 6 88 Tryz.underlying24 hi0 hz1 hz0 hz2 rfl (by decide) (.slice B5 kk c5) kk cs (by rfl) (own_alloc HO8.out _) ⟨w8.heap.size,0,none⟩ 1 1 (exL y A8 ca8 B8 cb8) (by rfl) rfl (fun j u hu=>World.news_of_block (heap_alloc_new _ _) j u hu) (exL_one _ _ _ _ _) (by omega) (by unfold maxLen;omega) (by omega) (by simp;omega) _ rfl ?_;intro g9 c9 w9 hown9 hgr9 hat9 hlt9;have HOW9:=Hd hown9;have HG9:=Hd hgr9;have HAT9:=Hd hat9;have hE9:RowX w9 hb (.mk 13 1 (ofB sl) 0 [] l) none 0 B5 c5:=(HE8.out.alloc _).grown hgr9 (fun e=>HOH.out hb e rfl);have HE9:=Hd hE9;have y5:w9.cell? ⟨hb,5,none⟩=some (.slice B5 kk c5):=by have h:=hE9.cells.2.2.2.2.2;simp only[Ex.subs] at h;rwa [HLN.out] at h
           have z5:=hE9.fz 5;clear hown9 hgr9 hat9 hE9;refine hK.out _ _ ?_ (fun hHeld=>?_)
           · exact trivial
           clear hK K
           (try simp only[Act.put,Yd,Ye,Yf])
           refine wpAnyH_take (i:=6) (oi:=?oi10) (v:=.pointer (some ⟨hb,5,none⟩)) ?h1x10 (by kernel_rfl) ?h3x10 (by kernel_rfl) ?h5x10 (Or.inl ⟨?h6x10,?h7x10⟩) hHeld ?h8x10
           case h1x10=>
            simp only[Ya,Yb,Yc];rfl
           case h3x10=>kernel_rfl
           case h5x10=>exact fun _ _ _ h=>h
           case h6x10=>rfl
           case h7x10=>
            intro W hSW
            (try dsimp only at hSW)
            go_split_ands
            first | (go_simp;done) | (go_simp;with_reducible rfl)
           (try simp only[Act.put,Yd,Ye,Yf])
           refine wpAnyH_ready (rs:=[7]) (by kernel_rfl) (by simp) ?_;refine AllReadyH.cons (by rfl) (fun K hK=>?_) ?_
           · go_simp
             refine hK.out _ _ ?_ (fun hHeld=>?_)
             · exact trivial
             clear hK K
             (try simp only[Act.put,Yd,Ye,Yf])
             refine wpAnyH_done (by kernel_rfl) ?_ _
             go_upto_region 7 with(fail)
             rw[set_five HE9.out (l':=l++[y]) (some ⟨g9,0,none⟩) (kk+1) c9 (by rw[List.length_append,HLN.out];rfl)];have hX:=call_step (sl:=sl) hgb HX.out hA.out hwB hbB HOB.out HOH.out HLN.out HF7.out hs8 HK8.out HP8.out HB8.out HE9.out HR8.out HG0.out HT8.out HOW9.out HG9.out HAT9.out (fun g e=>by have:=HBS.out g e;omega) (by omega) (by omega);generalize hw10:w9.setRow hb _=w10 at *;obtain⟨hB10,hP10,hE10,hR10,hG10⟩:=hX;have HE10:=Hd hE10;have HR10:=Hd hR10;clear y5 z5 hw10
             go_wp2_with (first | (refine wpList_load_row rfl _ _ rfl (hb) rfl _ _ _ _ (HE10.out) Tryz.underlying26 rfl ex_info ?_) | (refine wpList_store_row rfl _ _ _ rfl (w.heap.size) _ rfl rfl _ _ (HR10.out) ex_info rfl (by simp[exA,Value.oneCell']) ?_))
             obtain⟨f1,f3⟩:=ex_end (ca1:=0) (cb1:=c9) hB10 hP10 hR10 hgb hA.out hwB hG10;exact bodyPost_ret (res_ex rfl _ _ (w.heap.size) _ rfl rfl f3) rfl f1
           exact AllReadyH.nil
         exact AllReadyH.nil
       exact AllReadyH.nil
     exact AllReadyH.nil
   exact AllReadyH.nil
 | false=>
  go_wp2_with fail
  refine(take_no ⟨#[41]⟩ HP2.out (show(!false && isP _ _)=false by rw[Bool.not_false,Bool.true_and];exact hi)).mono ?_;rintro x w3 ⟨rfl,hP,hB⟩;have HP3:=Hd hP;have HB3:=Hd (kb_trans HB2.out hB);have HE3:=Hd (HE2.out.kb HX.out.2.1 hB);have HR3:=Hd (HR2.out.kb hgb hB);have hs3:=kb_size hB;clear hP hB
  go_wp2_with fail
  refine(prList ar ⟨#[41]⟩ HAR hla hm HP3.out hr).mono ?_;rintro x w4 ⟨kk,g4,c4,cs,bd,r4,rfl,hO,hkk,hP,hB,hT⟩
  obtain⟨l,hln,hT⟩:∃ l:List Ex,l.length=kk∧(bd=false∧callP ar po sl r=everyP po sl l r4∧r4.length≤m∧flX (fx w3.heap.size (Value.slice (some ⟨g4,0,none⟩) kk c4).ownBlock.toList w4) l cs∨bd=true∧callP ar po sl r=.bad r4):=by
   rcases hT with⟨h1,l,h2,h3,h4⟩|⟨h1,h2⟩
   · exact⟨l,h3,.inl ⟨h1,by rw[callP,if_neg (by rw[hi];simp),show listP ar [41] r=.ok l r4 from h2];rfl,by have:=list_less hla h2;omega,h4⟩⟩
   · exact⟨List.replicate kk zX,by simp,.inr ⟨h1,by rw[callP,if_neg (by rw[hi];simp),show listP ar [41] r=.bad r4 from h2];rfl⟩⟩
  have HLN:=Hd hln;have hgl:=hO.lt g4 rfl;have HO4:=Hd hO;have HP4:=Hd hP;have HB4:=Hd (kb_trans HB3.out hB);have HE4:=Hd (HE3.out.kb HX.out.2.1 hB);have HR4:=Hd (HR3.out.kb hgb hB);have HT4:=Hd hT;have hs4:=kb_size hB;have p5:=HE4.out.cells.2.2.2.2.2;have f5:=HE4.out.fz 5;have l5:=HE4.out.lt;clear hO hP hB hT hln
  go_upto_region 4 with(fail)
  rw[set_five HE4.out (some ⟨g4,0,none⟩) kk c4 HLN.out];generalize hw5:w4.setRow hb _=w5
  have h5:CallAt w w2 w5 b hb A n c m all po sl (callP ar po sl r):=by
   subst hw5;refine⟨bd,l,kk,some ⟨g4,0,none⟩,c4,cs,r4,HLN.out,hkk,HP4.out.setRow HX.out.2.1 (fun b0 off e=>by have:=hA.out b0 off e;have:=HX.out.1;omega) _,kb_setRow HB4.out HX.out.2.1 HX.out.1 _,HE4.out.set,HR4.out.other HX.out.2.2.1 _,own_base (own_set HO4.out (fun g e=>by have h2:g4=g:=Option.some.inj e;have:=HX.out.2.2.2;omega) _) hs3,HT4.out.imp (fun⟨a1,a2,a3,a4⟩=>⟨a1,a2,a3,?_⟩) id,by rw[setRow_size];omega⟩;exact fl_low (fl_move a4 (by rw[setRow_size];exact Nat.le_refl _) (fun p v q1 _ q3=>by rw[cell_setRow_other _ _ _ _ (by have:=HX.out.2.2.2;omega)];exact q3) (fun k hk=>.inl hk)) hs3
  clear HP4 HB4 HE4 HR4 HO4 HT4 HP3 HB3 HE3 HR3 hw5 p5 f5 l5 HLN hgl hkk;obtain⟨bd,l,kk,B5,c5,cs,r4,hln,hkk,hP,hB,hE,hR,hO,hT,hs5⟩:=h5;have HLN:=Hd hln;have HP5:=Hd hP;have HB5:=Hd hB;have HE5:=Hd hE;have HR5:=Hd hR;have HO5:=Hd hO;have HT5:=Hd hT;have HBS:=Hd fun g (e:(Value.slice B5 kk c5).ownBlock=some g)=>hO.lt g e;have HOB:=Hd (show ∀ g,(Value.slice B5 kk c5).ownBlock=some g→g≠b from fun g e=>by have:=(HBS.out g e).1;omega);have HOH:=Hd (show ∀ g,(Value.slice B5 kk c5).ownBlock=some g→g≠hb from fun g e=>by have:=(HBS.out g e).1;have:=HX.out.2.2.2;omega);clear hln hP hB hE hR hO hT
  cases hc:(!bd && isP everyL r4) with
  | false=>
   go_wp2_with fail
   refine(take_no ⟨#[101,118,101,114,121]⟩ HP5.out hc).mono ?_;rintro x w6 ⟨rfl,hP,hB⟩;have HP6:=Hd hP;have HB6:=Hd (kb_trans HB5.out hB);have HE6:=Hd (HE5.out.kb HX.out.2.1 hB);have HR6:=Hd (HR5.out.kb hgb hB);have HK6:=Hd (Kp.of_kb hB hbB);have HO6:=Hd (own_kb HO5.out HOB.out hB);clear hP hB
   go_wp2_with (first | (refine wpList_load_row rfl _ _ rfl (hb) rfl _ _ _ _ (HE6.out) Tryz.underlying26 rfl ex_info ?_) | (refine wpList_store_row rfl _ _ _ rfl (w.heap.size) _ rfl rfl _ _ (HR6.out) ex_info rfl (by simp[exA,Value.oneCell']) ?_))
   have hG:bd=false∧callP ar po sl r=.ok (.mk 13 0 (ofB sl) 0 [] l) r4∧rdX (fr w2.heap.size w6) (.mk 13 0 (ofB sl) 0 [] l) none B5∨bd=true∧callP ar po sl r=.bad r4:=by
    rcases HT5.out with⟨h1,h2,h3,h4⟩ | h1
    · subst h1;have hi:isP everyL r4=false:=by simpa using hc
      refine .inl ⟨rfl,by rw[h2,everyP,if_neg (by rw[hi];simp)],?_⟩;rw[rdX_eq];have h6:=row_rd (B2:=w2.heap.size) HO6.out HLN.out (fl_move h4 HK6.out.1 (fun p v q1 _ q3=>HK6.out.2 p v q1 q3) (fun k hk=>.inl hk)) (Nat.le_refl _) (by omega);rw[← HLN.out] at h6;exact⟨RdT.nil_ _,h6⟩
    · exact .inr h1
   obtain⟨f1,f3⟩:=ex_end (ca1:=0) (cb1:=c5) HB6.out HP6.out HR6.out hgb hA.out hwB hG;exact bodyPost_ret (res_ex rfl _ _ (w.heap.size) _ rfl rfl f3) rfl f1
  | true=>
   have hbd:bd=false:=by revert hc;cases bd <;> simp
   (try subst hbd)
   have hi:isP everyL r4=true:=by simpa using hc
   obtain⟨_,h2,h3,h4⟩:=HT5.out.resolve_right (by rintro ⟨h,_⟩;cases h);have HG0:=Hd (show callP ar po sl r=(po r4.tail).bind fun y r=>.ok (Ex.mk 13 1 (ofB sl) 0 [] (l++[y])) r from by rw[h2,everyP,if_pos hi]);have HFL:=Hd h4;have hl6:r4.tail.length≤m:=by have:=tail_less r4;omega
   clear h2 h4 hc
   go_wp2_with fail
   refine(take_yes ⟨#[101,118,101,114,121]⟩ HP5.out hi).mono ?_;rintro x w6 ⟨rfl,hP,hB⟩;have HP6:=Hd hP;have HB6:=Hd (kb_trans HB5.out hB);have HE6:=Hd (HE5.out.kb HX.out.2.1 hB);have HR6:=Hd (HR5.out.kb hgb hB);have HK6:=Hd (Kp.of_kb hB hbB);have HO6:=Hd (own_kb HO5.out HOB.out hB);have hs6:=kb_size hB;have p1:=HE6.out.cells.2.1;have f1:=HE6.out.fz 1;have l1:=HE6.out.lt;clear hP hB
   go_upto_region 6 with(fail)
   rw[set_one HE6.out 1];generalize hw7:w6.setRow hb _=w7
   have h7:PSt w7 b A n c all r4.tail false∧Below w.heap.size (bl b w) (bl b w7)∧RowX w7 hb (.mk 13 1 (ofB sl) 0 [] l) none 0 B5 c5∧RowX w7 w.heap.size zX none 0 none 0∧w7.ownsRow w2.heap.size 26 6 (.slice B5 kk c5) kk cs∧flX (fx w2.heap.size (Value.slice B5 kk c5).ownBlock.toList w7) l cs∧w6.heap.size≤w7.heap.size:=by
    subst hw7;refine⟨HP6.out.setRow HX.out.2.1 (fun b0 off e=>by have:=hA.out b0 off e;have:=HX.out.1;omega) _,kb_setRow HB6.out HX.out.2.1 HX.out.1 _,HE6.out.set,HR6.out.other HX.out.2.2.1 _,own_set HO6.out HOH.out _,?_,by rw[setRow_size];exact Nat.le_refl _⟩;exact fl_move HFL.out (by rw[setRow_size];exact HK6.out.1) (fun p v q1 _ q3=>by rw[cell_setRow_other _ _ _ _ (by have:=HX.out.2.2.2;omega)];exact HK6.out.2 p v q1 q3) (fun k hk=>.inl hk)
   obtain⟨hP,hB,hE,hR,hO,hF,hs7⟩:=h7;have HP7:=Hd hP;have HB7:=Hd hB;have HE7:=Hd hE;have HR7:=Hd hR;have HO7:=Hd hO;have HF7:=Hd hF;have v5:w7.cell? ⟨hb,5,none⟩=some (.slice B5 kk c5):=by have h:=hE.cells.2.2.2.2.2;simp only[Ex.subs] at h;rwa [HLN.out] at h
   have l7:=hE.lt;clear hP hB hE hR hO hF hw7 p1 f1 l1;refine wp_region_held_drew (S:=(fun _=>True)) (by kernel_rfl) ?_ (fun hHeld=>?_)
   · exact trivial
   refine wpAnyH_take (i:=0) (oi:=?oi1) (v:=.pointer (some ⟨hb,5,none⟩)) ?h1x1 (by kernel_rfl) ?h3x1 (by kernel_rfl) ?h5x1 (Or.inl ⟨?h6x1,?h7x1⟩) hHeld ?h8x1
   case h1x1=>
    simp only[Ya,Yb,Yc];rfl
   case h3x1=>kernel_rfl
   case h5x1=>exact fun _ _ _ h=>h
   case h6x1=>rfl
   case h7x1=>
    intro W hSW
    (try dsimp only at hSW)
    go_split_ands
    first | (go_simp;done) | (go_simp;with_reducible rfl)
   (try simp only[Act.put,Yd,Ye,Yf])
   refine wpAnyH_take (i:=2) (oi:=?oi2) (v:=.pointer (some ⟨b,0,none⟩)) ?h1x2 (by kernel_rfl) ?h3x2 (by kernel_rfl) ?h5x2 (Or.inl ⟨?h6x2,?h7x2⟩) hHeld ?h8x2
   case h1x2=>
    simp only[Ya,Yb,Yc];rfl
   case h3x2=>kernel_rfl
   case h5x2=>exact fun _ _ _ h=>h
   case h6x2=>rfl
   case h7x2=>
    intro W hSW
    (try dsimp only at hSW)
    go_split_ands
    first | (go_simp;done) | (go_simp;with_reducible rfl)
   (try simp only[Act.put,Yd,Ye,Yf])
   refine wpAnyH_ready (rs:=[1,3]) (by kernel_rfl) (by simp) ?_;refine AllReadyH.cons (by rfl) (fun K hK=>?_) ?_
   · go_simp
     refine hK.out _ _ ?_ (fun hHeld=>?_)
     · exact trivial
     clear hK K
     (try simp only[Act.put,Yd,Ye,Yf])
     refine wpAnyH_ready (rs:=[3]) (by kernel_rfl) (by simp) ?_;refine AllReadyH.cons (by rfl) (fun K hK=>?_) ?_
     · go_simp
       go_at_call 172
       refine(SpecX.anyD HPO HP7.out hl6).mono ?_;rintro x w8 ⟨y,A8,ca8,B8,cb8,bd8,r8,rfl,hP,hB,hT⟩;have HP8:=Hd hP;have HB8:=Hd (kb_trans HB7.out hB);have HE8:=Hd (HE7.out.kb HX.out.2.1 hB);have HR8:=Hd (HR7.out.kb hgb hB);have HO8:=Hd (own_kb HO7.out HOB.out hB);have HK8:=Hd (Kp.of_kb hB hbB);have HT8:=Hd hT;have hs8:=kb_size hB;have w5':w8.cell? ⟨hb,5,none⟩=some (.slice B5 kk c5):=by have h:=HE8.out.cells.2.2.2.2.2;simp only[Ex.subs] at h;rwa [HLN.out] at h
       have l8:=HE8.out.lt;clear hP hB hT;unfold exA;refine hK.out _ _ ?_ (fun hHeld=>?_)
       · exact trivial
       clear hK K
       (try simp only[Act.put,Yd,Ye,Yf])
       refine wpAnyH_ready (rs:=[4]) (by kernel_rfl) (by simp) ?_;refine AllReadyH.cons (by rfl) (fun K hK=>?_) ?_
       · go_simp
         refine hK.out _ _ ?_ (fun hHeld=>?_)
         · exact trivial
         clear hK K
         (try simp only[Act.put,Yd,Ye,Yf])
         refine wpAnyH_ready (rs:=[5]) (by kernel_rfl) (by simp) ?_;refine AllReadyH.cons (by rfl) (fun K hK=>?_) ?_
         · refine step_append_lies _ (by rfl) _ _ _ (by rfl) w2.heap.size 26 i0 _ 6 88 Tryz.underlying24 hi0 hz1 hz0 hz2 rfl (by decide) (.slice B5 kk c5) kk cs (by rfl) (own_alloc HO8.out _) ⟨w8.heap.size,0,none⟩ 1 1 (exL y A8 ca8 B8 cb8) (by rfl) rfl (fun j u hu=>World.news_of_block (heap_alloc_new _ _) j u hu) (exL_one _ _ _ _ _) (by omega) (by unfold maxLen;omega) (by omega) (by simp;omega) _ rfl ?_;intro g9 c9 w9 hown9 hgr9 hat9 hlt9;have HOW9:=Hd hown9;have HG9:=Hd hgr9;have HAT9:=Hd hat9;have hE9:RowX w9 hb (.mk 13 1 (ofB sl) 0 [] l) none 0 B5 c5:=(HE8.out.alloc _).grown hgr9 (fun e=>HOH.out hb e rfl);have HE9:=Hd hE9;have y5:w9.cell? ⟨hb,5,none⟩=some (.slice B5 kk c5):=by have h:=hE9.cells.2.2.2.2.2;simp only[Ex.subs] at h;rwa [HLN.out] at h
           have z5:=hE9.fz 5;clear hown9 hgr9 hat9 hE9;refine hK.out _ _ ?_ (fun hHeld=>?_)
           · exact trivial
           clear hK K
           (try simp only[Act.put,Yd,Ye,Yf])
           refine wpAnyH_take (i:=6) (oi:=?oi3) (v:=.pointer (some ⟨hb,5,none⟩)) ?h1x3 (by kernel_rfl) ?h3x3 (by kernel_rfl) ?h5x3 (Or.inl ⟨?h6x3,?h7x3⟩) hHeld ?h8x3
           case h1x3=>
            simp only[Ya,Yb,Yc];rfl
           case h3x3=>kernel_rfl
           case h5x3=>exact fun _ _ _ h=>h
           case h6x3=>rfl
           case h7x3=>
            intro W hSW
            (try dsimp only at hSW)
            go_split_ands
            first | (go_simp;done) | (go_simp;with_reducible rfl)
           (try simp only[Act.put,Yd,Ye,Yf])
           refine wpAnyH_ready (rs:=[7]) (by kernel_rfl) (by simp) ?_;refine AllReadyH.cons (by rfl) (fun K hK=>?_) ?_
           · go_simp
             refine hK.out _ _ ?_ (fun hHeld=>?_)
             · exact trivial
             clear hK K
             (try simp only[Act.put,Yd,Ye,Yf])
             refine wpAnyH_done (by kernel_rfl) ?_ _
             go_upto_region 7 with(fail)
             rw[set_five HE9.out (l':=l++[y]) (some ⟨g9,0,none⟩) (kk+1) c9 (by rw[List.length_append,HLN.out];rfl)];have hX:=call_step (sl:=sl) hgb HX.out hA.out hwB hbB HOB.out HOH.out HLN.out HF7.out hs8 HK8.out HP8.out HB8.out HE9.out HR8.out HG0.out HT8.out HOW9.out HG9.out HAT9.out (fun g e=>by have:=HBS.out g e;omega) (by omega) (by omega);generalize hw10:w9.setRow hb _=w10 at *;obtain⟨hB10,hP10,hE10,hR10,hG10⟩:=hX;have HE10:=Hd hE10;have HR10:=Hd hR10;clear y5 z5 hw10
             go_wp2_with (first | (refine wpList_load_row rfl _ _ rfl (hb) rfl _ _ _ _ (HE10.out) Tryz.underlying26 rfl ex_info ?_) | (refine wpList_store_row rfl _ _ _ rfl (w.heap.size) _ rfl rfl _ _ (HR10.out) ex_info rfl (by simp[exA,Value.oneCell']) ?_))
             obtain⟨f1,f3⟩:=ex_end (ca1:=0) (cb1:=c9) hB10 hP10 hR10 hgb hA.out hwB hG10;exact bodyPost_ret (res_ex rfl _ _ (w.heap.size) _ rfl rfl f3) rfl f1
           exact AllReadyH.nil
         exact AllReadyH.nil
       exact AllReadyH.nil
     exact AllReadyH.nil
   refine AllReadyH.cons (by rfl) (fun K hK=>?_) ?_
   · go_simp
     go_at_call 172
     refine(SpecX.anyD HPO HP7.out hl6).mono ?_;rintro x w8 ⟨y,A8,ca8,B8,cb8,bd8,r8,rfl,hP,hB,hT⟩;have HP8:=Hd hP;have HB8:=Hd (kb_trans HB7.out hB);have HE8:=Hd (HE7.out.kb HX.out.2.1 hB);have HR8:=Hd (HR7.out.kb hgb hB);have HO8:=Hd (own_kb HO7.out HOB.out hB);have HK8:=Hd (Kp.of_kb hB hbB);have HT8:=Hd hT;have hs8:=kb_size hB;have w5':w8.cell? ⟨hb,5,none⟩=some (.slice B5 kk c5):=by have h:=HE8.out.cells.2.2.2.2.2;simp only[Ex.subs] at h;rwa [HLN.out] at h
     have l8:=HE8.out.lt;clear hP hB hT;unfold exA;refine hK.out _ _ ?_ (fun hHeld=>?_)
     · exact trivial
     clear hK K
     (try simp only[Act.put,Yd,Ye,Yf])
     refine wpAnyH_ready (rs:=[1,4]) (by kernel_rfl) (by simp) ?_;refine AllReadyH.cons (by rfl) (fun K hK=>?_) ?_
     · go_simp
       refine hK.out _ _ ?_ (fun hHeld=>?_)
       · exact trivial
       clear hK K
       (try simp only[Act.put,Yd,Ye,Yf])
       refine wpAnyH_ready (rs:=[4]) (by kernel_rfl) (by simp) ?_;refine AllReadyH.cons (by rfl) (fun K hK=>?_) ?_
       · go_simp
         refine hK.out _ _ ?_ (fun hHeld=>?_)
         · exact trivial
         clear hK K
         (try simp only[Act.put,Yd,Ye,Yf])
         refine wpAnyH_ready (rs:=[5]) (by kernel_rfl) (by simp) ?_;refine AllReadyH.cons (by rfl) (fun K hK=>?_) ?_
         · refine step_append_lies _ (by rfl) _ _ _ (by rfl) w2.heap.size 26 i0 _ 6 88 Tryz.underlying24 hi0 hz1 hz0 hz2 rfl (by decide) (.slice B5 kk c5) kk cs (by rfl) (own_alloc HO8.out _) ⟨w8.heap.size,0,none⟩ 1 1 (exL y A8 ca8 B8 cb8) (by rfl) rfl (fun j u hu=>World.news_of_block (heap_alloc_new _ _) j u hu) (exL_one _ _ _ _ _) (by omega) (by unfold maxLen;omega) (by omega) (by simp;omega) _ rfl ?_;intro g9 c9 w9 hown9 hgr9 hat9 hlt9;have HOW9:=Hd hown9;have HG9:=Hd hgr9;have HAT9:=Hd hat9;have hE9:RowX w9 hb (.mk 13 1 (ofB sl) 0 [] l) none 0 B5 c5:=(HE8.out.alloc _).grown hgr9 (fun e=>HOH.out hb e rfl);have HE9:=Hd hE9;have y5:w9.cell? ⟨hb,5,none⟩=some (.slice B5 kk c5):=by have h:=hE9.cells.2.2.2.2.2;simp only[Ex.subs] at h;rwa [HLN.out] at h
           have z5:=hE9.fz 5;clear hown9 hgr9 hat9 hE9;refine hK.out _ _ ?_ (fun hHeld=>?_)
           · exact trivial
           clear hK K
           (try simp only[Act.put,Yd,Ye,Yf])
           refine wpAnyH_take (i:=6) (oi:=?oi4) (v:=.pointer (some ⟨hb,5,none⟩)) ?h1x4 (by kernel_rfl) ?h3x4 (by kernel_rfl) ?h5x4 (Or.inl ⟨?h6x4,?h7x4⟩) hHeld ?h8x4
           case h1x4=>
            simp only[Ya,Yb,Yc];rfl
           case h3x4=>kernel_rfl
           case h5x4=>exact fun _ _ _ h=>h
           case h6x4=>rfl
           case h7x4=>
            intro W hSW
            (try dsimp only at hSW)
            go_split_ands
            first | (go_simp;done) | (go_simp;with_reducible rfl)
           (try simp only[Act.put,Yd,Ye,Yf])
           refine wpAnyH_ready (rs:=[7]) (by kernel_rfl) (by simp) ?_;refine AllReadyH.cons (by rfl) (fun K hK=>?_) ?_
           · go_simp
             refine hK.out _ _ ?_ (fun hHeld=>?_)
             · exact trivial
             clear hK K
             (try simp only[Act.put,Yd,Ye,Yf])
             refine wpAnyH_done (by kernel_rfl) ?_ _
             go_upto_region 7 with(fail)
             rw[set_five HE9.out (l':=l++[y]) (some ⟨g9,0,none⟩) (kk+1) c9 (by rw[List.length_append,HLN.out];rfl)];have hX:=call_step (sl:=sl) hgb HX.out hA.out hwB hbB HOB.out HOH.out HLN.out HF7.out hs8 HK8.out HP8.out HB8.out HE9.out HR8.out HG0.out HT8.out HOW9.out HG9.out HAT9.out (fun g e=>by have:=HBS.out g e;omega) (by omega) (by omega);generalize hw10:w9.setRow hb _=w10 at *;obtain⟨hB10,hP10,hE10,hR10,hG10⟩:=hX;have HE10:=Hd hE10;have HR10:=Hd hR10;clear y5 z5 hw10
             go_wp2_with (first | (refine wpList_load_row rfl _ _ rfl (hb) rfl _ _ _ _ (HE10.out) Tryz.underlying26 rfl ex_info ?_) | (refine wpList_store_row rfl _ _ _ rfl (w.heap.size) _ rfl rfl _ _ (HR10.out) ex_info rfl (by simp[exA,Value.oneCell']) ?_))
             obtain⟨f1,f3⟩:=ex_end (ca1:=0) (cb1:=c9) hB10 hP10 hR10 hgb hA.out hwB hG10;exact bodyPost_ret (res_ex rfl _ _ (w.heap.size) _ rfl rfl f3) rfl f1
           exact AllReadyH.nil
         exact AllReadyH.nil
       exact AllReadyH.nil
     refine AllReadyH.cons (by rfl) (fun K hK=>?_) ?_
     · go_simp
       refine hK.out _ _ ?_ (fun hHeld=>?_)
       · exact trivial
       clear hK K
       (try simp only[Act.put,Yd,Ye,Yf])
       refine wpAnyH_ready (rs:=[1]) (by kernel_rfl) (by simp) ?_;refine AllReadyH.cons (by rfl) (fun K hK=>?_) ?_
       · go_simp
         refine hK.out _ _ ?_ (fun hHeld=>?_)
         · exact trivial
         clear hK K
         (try simp only[Act.put,Yd,Ye,Yf])
         refine wpAnyH_ready (rs:=[5]) (by kernel_rfl) (by simp) ?_;refine AllReadyH.cons (by rfl) (fun K hK=>?_) ?_
         · refine step_append_lies _ (by rfl) _ _ _ (by rfl) w2.heap.size 26 i0 _ 6 88 Tryz.underlying24 hi0 hz1 hz0 hz2 rfl (by decide) (.slice B5 kk c5) kk cs (by rfl) (own_alloc HO8.out _) ⟨w8.heap.size,0,none⟩ 1 1 (exL y A8 ca8 B8 cb8) (by rfl) rfl (fun j u hu=>World.news_of_block (heap_alloc_new _ _) j u hu) (exL_one _ _ _ _ _) (by omega) (by unfold maxLen;omega) (by omega) (by simp;omega) _ rfl ?_;intro g9 c9 w9 hown9 hgr9 hat9 hlt9;have HOW9:=Hd hown9;have HG9:=Hd hgr9;have HAT9:=Hd hat9;have hE9:RowX w9 hb (.mk 13 1 (ofB sl) 0 [] l) none 0 B5 c5:=(HE8.out.alloc _).grown hgr9 (fun e=>HOH.out hb e rfl);have HE9:=Hd hE9;have y5:w9.cell? ⟨hb,5,none⟩=some (.slice B5 kk c5):=by have h:=hE9.cells.2.2.2.2.2;simp only[Ex.subs] at h;rwa [HLN.out] at h
           have z5:=hE9.fz 5;clear hown9 hgr9 hat9 hE9;refine hK.out _ _ ?_ (fun hHeld=>?_)
           · exact trivial
           clear hK K
           (try simp only[Act.put,Yd,Ye,Yf])
           refine wpAnyH_take (i:=6) (oi:=?oi5) (v:=.pointer (some ⟨hb,5,none⟩)) ?h1x5 (by kernel_rfl) ?h3x5 (by kernel_rfl) ?h5x5 (Or.inl ⟨?h6x5,?h7x5⟩) hHeld ?h8x5
           case h1x5=>
            simp only[Ya,Yb,Yc];rfl
           case h3x5=>kernel_rfl
           case h5x5=>exact fun _ _ _ h=>h
           case h6x5=>rfl
           case h7x5=>
            intro W hSW
            (try dsimp only at hSW)
            go_split_ands
            first | (go_simp;done) | (go_simp;with_reducible rfl)
           (try simp only[Act.put,Yd,Ye,Yf])
           refine wpAnyH_ready (rs:=[7]) (by kernel_rfl) (by simp) ?_;refine AllReadyH.cons (by rfl) (fun K hK=>?_) ?_
           · go_simp
             refine hK.out _ _ ?_ (fun hHeld=>?_)
             · exact trivial
             clear hK K
             (try simp only[Act.put,Yd,Ye,Yf])
             refine wpAnyH_done (by kernel_rfl) ?_ _
             go_upto_region 7 with(fail)
             rw[set_five HE9.out (l':=l++[y]) (some ⟨g9,0,none⟩) (kk+1) c9 (by rw[List.length_append,HLN.out];rfl)];have hX:=call_step (sl:=sl) hgb HX.out hA.out hwB hbB HOB.out HOH.out HLN.out HF7.out hs8 HK8.out HP8.out HB8.out HE9.out HR8.out HG0.out HT8.out HOW9.out HG9.out HAT9.out (fun g e=>by have:=HBS.out g e;omega) (by omega) (by omega);generalize hw10:w9.setRow hb _=w10 at *;obtain⟨hB10,hP10,hE10,hR10,hG10⟩:=hX;have HE10:=Hd hE10;have HR10:=Hd hR10;clear y5 z5 hw10
             go_wp2_with (first | (refine wpList_load_row rfl _ _ rfl (hb) rfl _ _ _ _ (HE10.out) Tryz.underlying26 rfl ex_info ?_) | (refine wpList_store_row rfl _ _ _ rfl (w.heap.size) _ rfl rfl _ _ (HR10.out) ex_info rfl (by simp[exA,Value.oneCell']) ?_))
             obtain⟨f1,f3⟩:=ex_end (ca1:=0) (cb1:=c9) hB10 hP10 hR10 hgb hA.out hwB hG10;exact bodyPost_ret (res_ex rfl _ _ (w.heap.size) _ rfl rfl f3) rfl f1
           exact AllReadyH.nil
         exact AllReadyH.nil
       exact AllReadyH.nil
     exact AllReadyH.nil
   exact AllReadyH.nil
end
end
end Go.Proofs.YtokiaaapgkdpmaaGreatDoor
