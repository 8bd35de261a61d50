/- Parts: PsP, PsQ, PsR, PcF. Conditions: each theorem's own. -/
import Derived.Test.YtokiaaapgkdpmaaGreatDoorU41
namespace Go.Proofs.YtokiaaapgkdpmaaGreatDoor
set_option linter.unusedVariables false
set_option linter.unusedSimpArgs false
set_option maxRecDepth 100000
set_option maxHeartbeats 40000000
section
open Go.RowKit Go.Sort
section
variable {w w1 w2 w':World}{b:Nat}{A:Option Addr}{n c:Nat}{all r r' r2:List Tk}{va va1 vp:Value}{st:List Value}{ps:List Ex}{sz:Nat}{L L1 L2 S ft:List Nat}
def BoxS(w:World)(p:Nat)(s:ByteArray):Prop:=w.heap[p]?=some (.cells #[.string s] 9)
theorem bl_block_{k:Nat}(hb:Below w.heap.size (bl b w) (bl b w2))(hk:k≠b)(hlt:k<w.heap.size):w2.heap[k]?=w.heap[k]?:=by
 have h:=hb.block k hlt;unfold bl at h
 simpa [Array.getElem?_setIfInBounds,Ne.symm hk] using h
theorem BoxS.cell{p:Nat}{s:ByteArray}(h:BoxS w p s):w.cell? ⟨p,0,none⟩=some (.string s):=cell_of h 0 _ rfl
theorem BoxS.fz{p:Nat}{s:ByteArray}(h:BoxS w p s):w.frozen? ⟨p,0,none⟩=false:=by
 unfold World.frozen?;rw[show w.heap[p]?=_ from h];rfl
theorem when1(p0 p1 p2:Nat)(s1 s2:ByteArray)(h:QSt w b A n c all r va vp sz)(h0:w.cell? ⟨p0,0,none⟩=some (rp b))(h1:BoxS w p1 s1)(h2:BoxS w p2 s2)(hb0:p0≠b)(hb1:p1≠b)(hb2:p2≠b)(h12:p1≠p2):
 Calls Tryz.prog 28 #[rp p0,rp p1,rp p2] w fun e w'=>match whenP r with
  | .ok z r1=>e=.returned (.tuple #[])∧∃ w2,QSt w2 b A n c all r1 va vp sz∧Below w.heap.size (bl b w) (bl b w2)∧w'=(w2.setCell ⟨p1,0,none⟩ (.string (ofB z.1))).setCell ⟨p2,0,none⟩ (.string (ofB z.2))
  | .bad q=>e=Pan∧QSt w' b A n c all q va vp sz∧Below w.heap.size (bl b w) (bl b w'):=by
 have HW:=Hd (rrWhen h)
 cases hw:whenP r with
 | bad q=>
  have HK:=Hd (QPost.bad_ HW.out hw);clear HW hw h
  go_enter Tryz.func28,Tryz.ntmps28
  go_wp2_with fail
  refine HK.out.mono ?_;rintro e w2 ⟨rfl,hq,hb⟩;have HQ:=Hd hq;have HB:=Hd hb;clear hq hb
  go_wp2_with fail
  exact⟨rfl,rfl,HQ.out,HB.out⟩
 | ok z q=>
  have HK:=Hd (QPost.ok_ HW.out hw);unfold WhenV at HK;have H1:=Hd h1;have H2:=Hd h2;clear HW hw h h1 h2;generalize hz1:ofB z.1=z1 at *;generalize hz2:ofB z.2=z2 at *;have HZ1:=Hd hz1;have HZ2:=Hd hz2;clear hz1 hz2
  go_enter Tryz.func28,Tryz.ntmps28
  go_wp2_with fail
  refine HK.out.mono ?_;rintro e w2 ⟨rfl,hq,hb⟩;have k1:BoxS w2 p1 s1:=(bl_block_ hb hb1 (Array.getElem?_eq_some_iff.1 H1.out).1).trans H1.out;have k2:BoxS w2 p2 s2:=(bl_block_ hb hb2 (Array.getElem?_eq_some_iff.1 H2.out).1).trans H2.out;have c1:=k1.cell;have c2:=k2.cell;have f1:=k1.fz;have f2:=k2.fz;have h21:p2≠p1:=Ne.symm h12;have HQ:=Hd hq;have HB:=Hd hb;clear hq hb k1 k2
  go_wp2_with fail
  go_end0
  exact⟨rfl,w2,HQ.out,HB.out,by rw[HZ1.out,HZ2.out]⟩
end
end
section
open Go.RowKit Go.Sort
section
variable {w w0 w1 w2 w':World}{b:Nat}{A:Option Addr}{n c:Nat}{all r r' r2:List Tk}{va va1 vp:Value}{st:List Value}{ps:List Ex}{sz:Nat}{L L1 L2 S ft:List Nat}
theorem BoxS.set{p:Nat}{s:ByteArray}(h:BoxS w p s)(t:ByteArray):BoxS (w.setCell ⟨p,0,none⟩ (.string t)) p t:=by
 unfold BoxS;rw[setCell_eq_setRow _ _ _ _ _ _ _ h,setRow_heap _ _ _ _ _ _ h];rfl
theorem BoxS.other{p q:Nat}{s:ByteArray}(h:BoxS w p s)(hn:p≠q)(v:Value):BoxS (w.setCell ⟨q,0,none⟩ v) p s:=(heap_setCell_other _ _ _ _ hn).trans h
theorem BoxS.stay{p:Nat}{s:ByteArray}(h:BoxS w p s)(ht:Tn S L L1 w w1)(hn:p∉S):BoxS w1 p s:=(ht.block p (Array.getElem?_eq_some_iff.1 h).1 hn).trans h
structure WhenSep (b p0 p1 p2 m:Nat) (va vp:Value) (L:List Nat):Prop where
 l1:p1∈L
 l2:p2∈L
 b1:p1≠b
 b2:p2≠b
 n12:p1≠p2
 a1:va.ownBlock≠some p1
 a2:va.ownBlock≠some p2
 v1:vp.ownBlock≠some p1
 v2:vp.ownBlock≠some p2
 mb:m≤b
 m1:m≤p1
 m2:m≤p2
def IW(b:Nat)(A:Option Addr)(n c:Nat)(all:List Tk)(m:Nat)(w0:World)(p0 p1 p2:Nat)(r0:List Tk)(k:Nat)(L:List Nat)(w:World):Prop:=
 ∃ r va st vp,Mem w b A n c all r va st vp [] 0 L∧WhenSep b p0 p1 p2 m va vp L∧Fz L w p0 (rp b)∧Below m w0 w ∧
  ((k=1∧r=r0∧st=[fnV 28 #[rp p0,rp p1,rp p2]]∧(∃ s1,BoxS w p1 s1)∧∃ s2,BoxS w p2 s2)∨(k=0∧st=[]∧∃ z,whenP r0=.ok z r∧BoxS w p1 (ofB z.1)∧BoxS w p2 (ofB z.2)))
def DoneW(b:Nat)(A:Option Addr)(n c:Nat)(all:List Tk)(m:Nat)(w0:World)(p0 p1 p2:Nat)(r0:List Tk)(L:List Nat)(w:World):Prop:=
 ∃ r va vp z,w.cell? ⟨p0,0,none⟩=some (rp b)∧Mem w b A n c all r va [] vp [] 0 L∧whenP r0=.ok z r∧BoxS w p1 (ofB z.1)∧BoxS w p2 (ofB z.2)∧Below m w0 w
def BadW(b:Nat)(A:Option Addr)(n c:Nat)(m:Nat)(w0:World)(p0:Nat)(r0:List Tk)(w:World):Prop:=
 ∃ q,w.cell? ⟨p0,0,none⟩=some (rp b)∧whenP r0=.bad q∧Below m w0 w∧∃ va' vp' sz',w.heap[b]?=some (.cells (rdA (.slice A n c) ((n-q.length:Nat):Int) va' vp' sz') 60)
theorem turns_when{m p0 p1 p2:Nat}{r0:List Tk}(hm:m≤w0.heap.size):
 Turns b A n c all (IW b A n c all m w0 p0 p1 p2 r0) (DoneW b A n c all m w0 p0 p1 p2 r0) (BadW b A n c m w0 p0 r0) where
 at_:=by
  intro k L w ⟨r,va,st,vp,hM,hs,h0,hbl,hk⟩;refine⟨r,va,st,vp,[],0,hM,?_,fun hst=>?_,?_⟩
  · rcases hk with⟨_,_,rfl,_⟩|⟨_,rfl,_⟩ <;> simp
  · rcases hk with⟨_,_,rfl,_⟩|⟨_,_,z,hz,hb1,hb2⟩
    · cases hst
    · subst hst;exact⟨r,va,vp,z,h0.get,hM,hz,hb1,hb2,hbl⟩
  · intro v st' hst g cap hva w' hw' hMp hTp;rcases hk with⟨hk,rfl,rfl,⟨s1,hx1⟩,s2,hx2⟩|⟨_,rfl,_⟩
    · injection hst with hv hst;subst hv hst;have hbs:=b_sub hM;have hvw:va.ownBlock=some g:=by rw[hva];rfl
      have hb1:p1∉[b]:=fun h=>hs.b1 (List.mem_singleton.1 h);have hb2:p2∉[b]:=fun h=>hs.b2 (List.mem_singleton.1 h);have h0':=h0.up hTp hbs;have hp0:p0≠b:=fun e=>(bls_some h0').2 (by rw[show(⟨p0,0,none⟩:Addr).block=p0 from rfl,e];exact hMp.lb);have hx1':=hx1.stay hTp hb1;have hx2':=hx2.stay hTp hb2;have hblp:Below m w0 w':=tn_below hbl hTp (fun j hj=>by rw[List.mem_singleton.1 hj];exact hs.mb) hm;refine callV_fn ((when1 p0 p1 p2 s1 s2 hMp.q h0'.get hx1' hx2' hp0 hs.b1 hs.b2 hs.n12).mono fun e w2 hx=>?_)
      cases hw:whenP r with
      | bad q=>
       rw[hw] at hx;obtain⟨he,hq,hb⟩:=hx;obtain⟨hM2,hT2⟩:=hMp.move hq hb;exact .inr ⟨he,⟨q,(h0'.up hT2 hbs).get,hw,tn_below hblp hT2 (fun j hj=>by rw[List.mem_singleton.1 hj];exact hs.mb) hm,_,_,_,hM2.row⟩,[b],L,hT2,hbs⟩
      | ok z q=>
       rw[hw] at hx;obtain⟨he,w3,hq,hb,rfl⟩:=hx;obtain⟨hM3,hT3⟩:=hMp.move hq hb;have ha1:(Value.slice (some ⟨g,0,none⟩) ([]:List Value).length cap).ownBlock≠some p1:=fun e=>hs.a1 (hvw.trans e);have ha2:(Value.slice (some ⟨g,0,none⟩) ([]:List Value).length cap).ownBlock≠some p2:=fun e=>hs.a2 (hvw.trans e);obtain⟨hM4,hT4⟩:=hM3.other hs.l1 hs.b1 ha1 hs.v1 0 (.string (ofB z.1));obtain⟨hM5,hT5⟩:=hM4.other hs.l2 hs.b2 ha2 hs.v2 0 (.string (ofB z.2));have hy1:=(hx1'.stay hT3 hb1).set (ofB z.1);have hy2:=((hx2'.stay hT3 hb2).other (Ne.symm hs.n12) (.string (ofB z.1))).set (ofB z.2);have hy1':=hy1.other hs.n12 (.string (ofB z.2))
       have hT:Tn [b,p1,p2] L L w' ((w3.setCell ⟨p1,0,none⟩ (.string (ofB z.1))).setCell ⟨p2,0,none⟩ (.string (ofB z.2))):=
        ((hT3.mono (S1:=[b,p1,p2]) (fun j hj=>by simp[List.mem_singleton.1 hj])).trans hT4 hMp.lv (fun j hj=>.inl (by simp[List.mem_singleton.1 hj]))).trans hT5 hMp.lv (fun j hj=>.inl (by simp[List.mem_singleton.1 hj]))
       have hSL:∀ j∈[b,p1,p2],j∈L:=fun j hj=>by
        simp only[List.mem_cons,List.not_mem_nil,or_false] at hj;rcases hj with rfl | rfl | rfl
        · exact hMp.lb
        · exact hs.l1
        · exact hs.l2
       have hSm:∀ j∈[b,p1,p2],m≤j:=fun j hj=>by
        simp only[List.mem_cons,List.not_mem_nil,or_false] at hj;rcases hj with rfl | rfl | rfl
        · exact hs.mb
        · exact hs.m1
        · exact hs.m2
       exact .inl ⟨he,0,L,by omega,⟨q,_,[],vp,hM5,⟨hs.l1,hs.l2,hs.b1,hs.b2,hs.n12,ha1,ha2,hs.v1,hs.v2,hs.mb,hs.m1,hs.m2⟩,h0'.up hT hSL,tn_below hblp hT hSm hm,.inr ⟨rfl,rfl,z,hw,hy1',hy2⟩⟩,_,hT,hSL⟩
    · cases hst
end
end
section
open Go.RowKit Go.Sort
def whenO(all:List Tk)(at_:Int):ByteArray × ByteArray × Int × Bool:=
 if beginsB all at_=true then
  match whenP (all.drop at_.toNat) with
  | .bad q=>(⟨#[]⟩,⟨#[]⟩,((all.length-q.length:Nat):Int),false)
  | .ok z r1=>(ofB z.1,ofB z.2,((all.length-r1.length:Nat):Int),true)
 else(⟨#[]⟩,⟨#[]⟩,0,false)
def WhenR(z:ByteArray × ByteArray × Int × Bool)(e:Ending):Prop:=e=.returned (.tuple #[.string z.1,.string z.2.1,.int .i64 z.2.2.1,.bool z.2.2.2])
section
variable {w w':World}{A:Option Addr}{n c:Nat}{all:List Tk}
theorem pw_when_none(at_:Int)(h:RdK w A n all)(ha:-9223372036854775808≤at_∧at_≤9223372036854775807)(hb:beginsB all at_=false):
 Calls Tryz.prog 13 #[.slice A n c,.int .i64 at_] w fun e w'=>Below w.heap.size w w'∧WhenR (whenO all at_) e:=by
 have HB:=Hd (paBegins (w:=w) (c:=c) at_ h ha);rw[hb] at HB;rw[show whenO all at_=(⟨#[]⟩,⟨#[]⟩,0,false) by simp[whenO,hb]];clear h hb
 go_enter Tryz.func13,Tryz.ntmps13
 go_wp2_with fail
 refine HB.out.mono ?_;rintro e w1 ⟨rfl,hb1⟩;have HB1:=Hd hb1;clear hb1
 go_wp2_with fail
 exact bodyPost_ret (v:=.tuple #[.string ⟨#[]⟩,.string ⟨#[]⟩,.int .i64 0,.bool false]) (by simp[results,Tryz.results13,go_sem]) rfl ⟨HB1.out,rfl⟩
theorem pw_when_whole{at_:Int}{w1:World}(h:RdK w1 A n all)(ht:∀ t∈all,TkOK t)(hb:beginsB all at_=true):
 Calls Tryz.prog 24 #[rp w1.heap.size,fnV 28 #[rp (w1.heap.size+1),rp (w1.heap.size+1+1),rp (w1.heap.size+1+1+1)]]
  ((((w1.alloc (.cells (rdA (.slice A n c) at_ (.slice none 0 0) (.slice none 0 0) 0) 60)).alloc (.cells #[rp w1.heap.size] 57)).alloc (.cells #[.string ⟨#[]⟩] 9)).alloc (.cells #[.string ⟨#[]⟩] 9)) fun e w'=>Below w1.heap.size w1 w'∧w'.cell? ⟨w1.heap.size+1,0,none⟩=some (rp w1.heap.size)∧match whenP (all.drop at_.toNat) with
  | .ok z r1=>e=.returned (.bool true)∧BoxS w' (w1.heap.size+1+1) (ofB z.1)∧BoxS w' (w1.heap.size+1+1+1) (ofB z.2)∧WholeBad w' w1.heap.size A n c r1
  | .bad q=>e=.returned (.bool false)∧WholeBad w' w1.heap.size A n c q:=by
 have hM0:=mem_new (c:=c) h ht hb;have hM1:=hM0.alloc (.cells #[rp w1.heap.size] 57);have hM2:=hM1.use ((Below.refl _ _).alloc (Nat.le_refl _) (.cells #[.string ⟨#[]⟩] 9)) (Nat.le_refl _) (by simp);have hM3:=hM2.use ((Below.refl _ _).alloc (Nat.le_refl _) (.cells #[.string ⟨#[]⟩] 9)) (Nat.le_refl _) (by simp);simp only[World.size_alloc] at hM3;generalize hW:(((w1.alloc _).alloc _).alloc _).alloc _=W at *;have hN2:=news (w:=w1) (l:=[(rdA (.slice A n c) at_ (.slice none 0 0) (.slice none 0 0) 0,60),(#[rp w1.heap.size],57),(#[.string ⟨#[]⟩],9),(#[.string ⟨#[]⟩],9)]) hW;have x1:BoxS W (w1.heap.size+1+1) ⟨#[]⟩:=hN2.at_ 2 _ rfl;have x2:BoxS W (w1.heap.size+1+1+1) ⟨#[]⟩:=hN2.at_ 3 _ rfl;have hsz:=hN2.size
 have hp0:w1.heap.size+1∉(w1.heap.size+1+1+1)::(w1.heap.size+1+1)::oldL (blkA A) w1.heap.size:=fun hk=>by
  simp only[List.mem_cons,mem_oldL] at hk;omega
 have x0:Fz _ W (w1.heap.size+1) (rp w1.heap.size):=Fz.new (hN2.cell 1 0 _ _ rfl rfl) hp0;refine(rrWhole (turns_when (m:=w1.heap.size) (w0:=w1) (p0:=w1.heap.size+1) (p1:=w1.heap.size+1+1) (p2:=w1.heap.size+1+1+1) (r0:=all.drop at_.toNat) (Nat.le_refl _)) (.func 28) #[] #[rp (w1.heap.size+1),rp (w1.heap.size+1+1),rp (w1.heap.size+1+1+1)] hM3 ?_).mono ?_
 · intro W0 W1 va1 L1 hb0 hM hT hg;have hS:∀ j∈pushS w1.heap.size (.slice none 0 0),j=w1.heap.size:=fun j hj=>by simpa [pushS,Value.ownBlock] using hj
   have hlt:∀ j,j<4→w1.heap.size+j<W.heap.size:=fun j hj=>by rw[hsz];simpa using hj
   have hown:∀ j,j<4→va1.ownBlock≠some (w1.heap.size+j):=fun j hj e=>by
    rcases hg with hg | hg
    · rw[hg] at e;cases e
    · have:=hg _ e;have:=hlt j hj;have:=hb0.size;omega
   have y1:BoxS W0 (w1.heap.size+1+1) ⟨#[]⟩:=(hb0.block _ (hlt 2 (by decide))).trans x1;have y2:BoxS W0 (w1.heap.size+1+1+1) ⟨#[]⟩:=(hb0.block _ (hlt 3 (by decide))).trans x2;have n1:∀ j,0<j→w1.heap.size+j∉pushS w1.heap.size (.slice none 0 0):=fun j hj hk=>by have:=hS _ hk;omega
   refine⟨1,_,va1,_,_,hM,⟨hT.stay _ (by simp) (n1 2 (by decide)),hT.stay _ (by simp) (n1 3 (by decide)),by omega,by omega,by omega,hown 2 (by decide),hown 3 (by decide),by simp[Value.ownBlock],by simp[Value.ownBlock],Nat.le_refl _,by omega,by omega⟩,(x0.up (Tn.of_below (S:=[]) hb0) nil_sub).up hT (push_sub hM3),?_,.inl ⟨rfl,rfl,rfl,⟨_,y1.stay hT (n1 2 (by decide))⟩,_,y2.stay hT (n1 3 (by decide))⟩⟩;exact tn_below ((hN2.below).trans (hb0.mono (by omega))) hT (fun j hj=>by rw[hS j hj];exact Nat.le_refl _) (Nat.le_refl _)
 · rintro e w' ⟨w2,hbs,⟨rfl,L',⟨r1,va',vp',z,hc0,hM,hz,hb1,hb2,hbl⟩,hbox⟩|⟨rfl,q,hc0,hz,hbl,va',vp',sz',hrow⟩⟩
   · have hne:∀ j,j<4→w1.heap.size+j≠W.heap.size:=fun j hj=>by rw[hsz];simp;omega
     refine⟨⟨hbs.os.trans hbl.os,hbs.tape.trans hbl.tape,hbs.output.trans hbl.output,Nat.le_trans hbl.size (Nat.le_of_eq hbs.size.symm),fun k hk=>(hbs.block k (by rw[hsz];simp;omega)).trans (hbl.block k hk)⟩,(by unfold World.cell? at hc0 ⊢;rw[hbs.block _ (hne 1 (by decide))];exact hc0),?_⟩;rw[hz];exact⟨rfl,(hbs.block _ (hne 2 (by decide))).trans hb1,(hbs.block _ (hne 3 (by decide))).trans hb2,va',vp',0,(hbs.block _ (hne 0 (by decide))).trans hM.row⟩
   · have hne:∀ j,j<4→w1.heap.size+j≠W.heap.size:=fun j hj=>by rw[hsz];simp;omega
     refine⟨⟨hbs.os.trans hbl.os,hbs.tape.trans hbl.tape,hbs.output.trans hbl.output,Nat.le_trans hbl.size (Nat.le_of_eq hbs.size.symm),fun k hk=>(hbs.block k (by rw[hsz];simp;omega)).trans (hbl.block k hk)⟩,(by unfold World.cell? at hc0 ⊢;rw[hbs.block _ (hne 1 (by decide))];exact hc0),?_⟩;rw[hz];exact⟨rfl,va',vp',sz',(hbs.block _ (hne 0 (by decide))).trans hrow⟩
theorem pw_when_ok(at_:Int)(h:RdK w A n all)(ht:∀ t∈all,TkOK t)(ha:-9223372036854775808≤at_∧at_≤9223372036854775807)(hb:beginsB all at_=true){z:List UInt8 × List UInt8}{r1:List Tk}(hw:whenP (all.drop at_.toNat)=.ok z r1):
 Calls Tryz.prog 13 #[.slice A n c,.int .i64 at_] w fun e w'=>Below w.heap.size w w'∧WhenR (whenO all at_) e:=by
 have hmf:∀ (fn:Fn) (first cap:Array Value) (w:World),(Instr.makeFunc fn first cap).run Tryz.prog w=.ok (.func fn first cap) w:=fun _ _ _ _=>rfl;have HB:=Hd (paBegins (w:=w) (c:=c) at_ h ha);rw[hb] at HB;have HW:=Hd fun w1 (h1:Below w.heap.size w w1)=>pw_when_whole (c:=c) (h.stay h1) ht hb;rw[hw] at HW;rw[show whenO all at_=(ofB z.1,ofB z.2,((all.length-r1.length:Nat):Int),true) by simp[whenO,hb,hw]];rw[h.1];clear h ht hb hw
 go_enter Tryz.func13,Tryz.ntmps13
 go_wp2_with fail
 refine HB.out.mono ?_;rintro e w1 ⟨rfl,hb1⟩;have HB1:=Hd hb1;clear hb1
 go_wp2_with fail
 refine(HW.out w1 HB1.out).mono ?_;rintro e w2 ⟨hb2,c0,rfl,x1,x2,va,vp,sz,hrow⟩;have HB2:=Hd (HB1.out.trans (hb2.mono HB1.out.size));have q1:=cell_of hrow 1 (.int .i64 ((n-r1.length:Nat):Int)) rfl;have c1:=x1.cell;have c2:=x2.cell;clear hb2 hrow x1 x2;generalize w1.heap.size+1+1+1=p2 at *;generalize w1.heap.size+1+1=p1 at *;generalize w1.heap.size+1=p0 at *;generalize w1.heap.size=b at *
 go_upto_region 7 with(fail)
 go_region
 go_wp2_with fail
 exact bodyPost_ret (v:=.tuple #[.string (ofB z.1),.string (ofB z.2),.int .i64 ((n-r1.length:Nat):Int),.bool true]) (by simp[results,Tryz.results13,go_sem]) rfl ⟨HB2.out.drew,rfl⟩
theorem pw_when_bad(at_:Int)(h:RdK w A n all)(ht:∀ t∈all,TkOK t)(ha:-9223372036854775808≤at_∧at_≤9223372036854775807)(hb:beginsB all at_=true){q:List Tk}(hw:whenP (all.drop at_.toNat)=.bad q):
 Calls Tryz.prog 13 #[.slice A n c,.int .i64 at_] w fun e w'=>Below w.heap.size w w'∧WhenR (whenO all at_) e:=by
 have hmf:∀ (fn:Fn) (first cap:Array Value) (w:World),(Instr.makeFunc fn first cap).run Tryz.prog w=.ok (.func fn first cap) w:=fun _ _ _ _=>rfl;have HB:=Hd (paBegins (w:=w) (c:=c) at_ h ha);rw[hb] at HB;have HW:=Hd fun w1 (h1:Below w.heap.size w w1)=>pw_when_whole (c:=c) (h.stay h1) ht hb;rw[hw] at HW;rw[show whenO all at_=(⟨#[]⟩,⟨#[]⟩,((all.length-q.length:Nat):Int),false) by simp[whenO,hb,hw]];rw[h.1];clear h ht hb hw
 go_enter Tryz.func13,Tryz.ntmps13
 go_wp2_with fail
 refine HB.out.mono ?_;rintro e w1 ⟨rfl,hb1⟩;have HB1:=Hd hb1;clear hb1
 go_wp2_with fail
 refine(HW.out w1 HB1.out).mono ?_;rintro e w2 ⟨hb2,c0,rfl,va,vp,sz,hrow⟩;have HB2:=Hd (HB1.out.trans (hb2.mono HB1.out.size));have q1:=cell_of hrow 1 (.int .i64 ((n-q.length:Nat):Int)) rfl;clear hb2 hrow;generalize w1.heap.size+1+1+1=p2 at *;generalize w1.heap.size+1+1=p1 at *;generalize w1.heap.size+1=p0 at *;generalize w1.heap.size=b at *
 go_upto_region 6 with(fail)
 first | (go_region;go_wp2_with fail) | go_wp2_with fail
 exact bodyPost_ret (v:=.tuple #[.string ⟨#[]⟩,.string ⟨#[]⟩,.int .i64 ((n-q.length:Nat):Int),.bool false]) (by simp[results,Tryz.results13,go_sem]) rfl ⟨by first | exact HB2.out | exact HB2.out.drew,rfl⟩
theorem paWhen(at_:Int)(h:RdK w A n all)(ht:∀ t∈all,TkOK t)(ha:-9223372036854775808≤at_∧at_≤9223372036854775807):
 Calls Tryz.prog 13 #[.slice A n c,.int .i64 at_] w fun e w'=>Below w.heap.size w w'∧WhenR (whenO all at_) e:=by
 cases hb:beginsB all at_ with
 | false=>exact pw_when_none at_ h ha hb
 | true=>
  cases hw:whenP (all.drop at_.toNat) with
  | bad q=>exact pw_when_bad at_ h ht ha hb hw
  | ok z r1=>exact pw_when_ok at_ h ht ha hb hw
end
end
section
open Go.RowKit Go.Sort
section
variable {w w':World}{A:Option Addr}{n c:Nat}{all:List Tk}
theorem rw_none(at_:Int)(h:RdK w A n all)(ha:-9223372036854775808≤at_∧at_≤9223372036854775807)(hb:beginsB all at_=false):
 Calls Tryz.prog 15 #[.slice A n c,.int .i64 at_] w fun e w'=>Below w.heap.size w w'∧WhenR (whenO all at_) e:=by
 rw[show whenO all at_=(⟨#[]⟩,⟨#[]⟩,0,false) by simp[whenO,hb]];obtain⟨hl,hmx,hc⟩:=h;have hb2:(decide (0≤at_) && (decide (at_<(n:Int)) && ((all[n-1]?.getD default).k==6)))=false:=by rw[← hl];exact hb
 clear hb hl
 by_cases h0:at_<0
 · clear hc hb2
   go_enter Tryz.func15,Tryz.ntmps15
   go_wp2_with fail
   exact bodyPost_ret (v:=.tuple #[.string ⟨#[]⟩,.string ⟨#[]⟩,.int .i64 0,.bool false]) (by simp[results,Tryz.results15,go_sem]) rfl ⟨Below.refl _ _,rfl⟩
 · by_cases h1:(n:Int)≤at_
   · clear hc hb2
     go_enter Tryz.func15,Tryz.ntmps15
     go_wp2_with fail
     exact bodyPost_ret (v:=.tuple #[.string ⟨#[]⟩,.string ⟨#[]⟩,.int .i64 0,.bool false]) (by simp[results,Tryz.results15,go_sem]) rfl ⟨Below.refl _ _,rfl⟩
   · have hn:0<n:=by omega
     obtain⟨b0,off,rfl,hlt,hcells⟩:=hc hn;have t0:=(hcells (n-1) (by omega)).1;have hw:IntKind.i64.wrap ((n:Int)-1)=((n-1:Nat):Int):=by rw[IntKind.wrap_i64];omega
     have hn2:((n-1:Nat):Int)<(n:Int):=by omega
     have hn3:(0:Int)≤((n-1:Nat):Int):=by omega
     have hn4:n-1<n:=by omega
     have hk6:((all[n-1]?.getD default).k != 6)=true:=by
      rw[decide_eq_true (by omega:0≤at_),decide_eq_true (by omega:at_<(n:Int)),Bool.true_and,Bool.true_and] at hb2;simp only[bne,hb2,Bool.not_false]
     generalize hm:n-1=m at *;generalize (all[m]?.getD default).k=k at *;clear hc hcells hm hb2
     go_enter Tryz.func15,Tryz.ntmps15
     go_wp2_with fail
     exact bodyPost_ret (v:=.tuple #[.string ⟨#[]⟩,.string ⟨#[]⟩,.int .i64 0,.bool false]) (by simp[results,Tryz.results15,go_sem]) rfl ⟨Below.refl _ _,rfl⟩
theorem rw_bad(at_:Int)(h:RdK w A n all)(hb:beginsB all at_=true){q:List Tk}(hp:whenP (all.drop at_.toNat)=.bad q):
 Calls Tryz.prog 15 #[.slice A n c,.int .i64 at_] w fun e w'=>Below w.heap.size w w'∧WhenR (whenO all at_) e:=by
 rw[show whenO all at_=(⟨#[]⟩,⟨#[]⟩,((all.length-q.length:Nat):Int),false) by simp only[whenO,hb,if_true,hp]];have HPS:=Hd (pst_new (c:=c) h hb w (Below.refl _ _));obtain⟨b0,off,hA0,hb0,t0,hn0,h0,h1⟩:=part_start h hb;have hmx:=h.2.1;have hw:IntKind.i64.wrap ((n:Int)-1)=((n-1:Nat):Int):=by rw[IntKind.wrap_i64];omega
 have hn2:((n-1:Nat):Int)<(n:Int):=by omega
 have hn3:(0:Int)≤((n-1:Nat):Int):=by omega
 have hn4:n-1<n:=by omega
 rw[h.1];clear h hb;subst hA0;have HW:=Hd (prWhen HPS.out);rw[hp] at HW;clear hp
 go_enter Tryz.func15,Tryz.ntmps15
 generalize hm:n-1=m at *
 go_wp2_with fail
 clear t0 hw hn2 hn3 hn4 hm;refine HW.out.mono ?_;rintro e w2 ⟨hk,hP,s1,s2,rfl⟩;have hb2:=part_below hk;have HB2:=Hd hb2;clear hb2 hk;generalize hbe:w.heap.size=b at *;have HBE:=Hd hbe;clear hbe;have q1:w2.cell? ⟨b,1,none⟩=some (.int .i64 ((n-q.length:Nat):Int)):=hP.cell 1;have q2:w2.cell? ⟨b,2,none⟩=some (.bool true):=hP.cell 2;clear hP
 go_upto_region 6 with(fail)
 go_quiet (fail)
 go_wp2_with fail
 exact bodyPost_ret (v:=.tuple #[.string ⟨#[]⟩,.string ⟨#[]⟩,.int .i64 ((n-q.length:Nat):Int),.bool false]) (by simp[results,Tryz.results15,go_sem]) rfl ⟨(by rw[HBE.out];exact below_drewN HB2.out _),rfl⟩
theorem rw_ok(at_:Int)(h:RdK w A n all)(hb:beginsB all at_=true){z:List UInt8 × List UInt8}{r1:List Tk}(hp:whenP (all.drop at_.toNat)=.ok z r1):
 Calls Tryz.prog 15 #[.slice A n c,.int .i64 at_] w fun e w'=>Below w.heap.size w w'∧WhenR (whenO all at_) e:=by
 rw[show whenO all at_=(ofB z.1,ofB z.2,((all.length-r1.length:Nat):Int),true) by simp only[whenO,hb,if_true,hp]];have HPS:=Hd (pst_new (c:=c) h hb w (Below.refl _ _));obtain⟨b0,off,hA0,hb0,t0,hn0,h0,h1⟩:=part_start h hb;have hmx:=h.2.1;have hw:IntKind.i64.wrap ((n:Int)-1)=((n-1:Nat):Int):=by rw[IntKind.wrap_i64];omega
 have hn2:((n-1:Nat):Int)<(n:Int):=by omega
 have hn3:(0:Int)≤((n-1:Nat):Int):=by omega
 have hn4:n-1<n:=by omega
 rw[h.1];clear h hb;subst hA0;have HW:=Hd (prWhen HPS.out);rw[hp] at HW;clear hp
 go_enter Tryz.func15,Tryz.ntmps15
 generalize hm:n-1=m at *
 go_wp2_with fail
 clear t0 hw hn2 hn3 hn4 hm;refine HW.out.mono ?_;rintro e w2 ⟨hk,hP,rfl⟩;have hb2:=part_below hk;have HB2:=Hd hb2;clear hb2 hk;generalize hbe:w.heap.size=b at *;have HBE:=Hd hbe;clear hbe;have q1:w2.cell? ⟨b,1,none⟩=some (.int .i64 ((n-r1.length:Nat):Int)):=hP.cell 1;have q2:w2.cell? ⟨b,2,none⟩=some (.bool false):=hP.cell 2;clear hP
 go_upto_region 7 with(fail)
 go_quiet (fail)
 go_wp2_with fail
 exact bodyPost_ret (v:=.tuple #[.string (ofB z.1),.string (ofB z.2),.int .i64 ((n-r1.length:Nat):Int),.bool true]) (by simp[results,Tryz.results15,go_sem]) rfl ⟨(by rw[HBE.out];exact below_drewN HB2.out _),rfl⟩
theorem refWhenD(at_:Int)(h:RdK w A n all)(ha:-9223372036854775808≤at_∧at_≤9223372036854775807):
 Calls Tryz.prog 15 #[.slice A n c,.int .i64 at_] w fun e w'=>Below w.heap.size w w'∧WhenR (whenO all at_) e:=by
 cases hb:beginsB all at_ with
 | false=>exact rw_none at_ h ha hb
 | true=>
  cases hp:whenP (all.drop at_.toNat) with
  | bad q=>exact rw_bad at_ h hb hp
  | ok z r1=>exact rw_ok at_ h hb hp
end
end
end Go.Proofs.YtokiaaapgkdpmaaGreatDoor
