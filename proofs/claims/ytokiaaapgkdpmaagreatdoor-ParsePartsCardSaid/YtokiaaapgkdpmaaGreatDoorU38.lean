/- Parts: PsD, PsE, PsF, PsG, PsH, PsI. Conditions: each theorem's own. -/
import Derived.Tactics2
import Derived.Defers
import Derived.Recover
import Derived.Laws.Pointers
import Derived.Test.YtokiaaapgkdpmaaGreatDoorU36
import Derived.Test.YtokiaaapgkdpmaaGreatDoorU37
namespace Go.Proofs.YtokiaaapgkdpmaaGreatDoor
set_option linter.unusedVariables false
set_option linter.unusedSimpArgs false
set_option maxRecDepth 100000
set_option maxHeartbeats 40000000
section
open Go.RowKit Go.Sort
section
variable {w w1 w2 w':World}{b:Nat}{A:Option Addr}{n c:Nat}{all r r' r2:List Tk}{va va1 vp:Value}{st:List Value}{ps:List Ex}{sz:Nat}{L L1 L2 S ft:List Nat}
def CallV(v:Value)(w:World)(Q:Ending→World→Prop):Prop:=∃ K a c,v=.func (.func K) a c∧(∀ (args:Array Value) (w:World),(callFunc K args).run Tryz.prog w=.ok (.enter K args) w)∧Calls Tryz.prog K (a++c) w Q
theorem callV_fn{K:Nat}{cap:Array Value}{Q:Ending→World→Prop}(h:Calls Tryz.prog K cap w Q)(hK:∀ (args:Array Value) (w:World),(callFunc K args).run Tryz.prog w=.ok (.enter K args) w:=by intro args w;rfl):CallV (fnV K cap) w Q:=⟨K,#[],cap,rfl,hK,by rw[show(#[]++cap:Array Value)=cap by simp];exact h⟩
theorem lvF_enter(l:Lv)(args:Array Value)(w:World):(callFunc (lvF l) args).run Tryz.prog w=.ok (.enter (lvF l) args) w:=by cases l <;> rfl
theorem callV_lv{l:Lv}{Q:Ending→World→Prop}(h:Calls Tryz.prog (lvF l) #[rp b] w Q):CallV (lvV b l) w Q:=⟨lvF l,#[rp b],#[],rfl,lvF_enter l,by simpa using h⟩
theorem turn_all{K:Nat}{f:Fr}{v:Value}(h:Mem w b A n c all r va st vp ps sz L)(hst:st.length≤900000)(hps:ps.length≤1000000)(hsz:sz≤1000000)(hK:K≤1000000)(hn:NeedF K f ps.length r.length)(hF:FrAt L w b f v ft)(hv:∀ k∈ft,vp.ownBlock≠some k):
 CallV v w (Turn w b A n c all va st vp L ft (stepF f ps sz r)):=by
 cases f with
 | m l=>
  obtain⟨rfl,rfl⟩:=hF;have hst':st.length≤1000000:=by omega
  refine callV_lv ?_
  cases l with
  | arrow=>exact lv_arrow h hst'
  | fby=>exact lv_fby h hst'
  | or=>exact lv_or h hst'
  | and=>exact lv_and h hst'
  | cmp=>exact lv_cmp h hst'
  | sum=>exact lv_sum h hst'
  | prod=>exact lv_prod h hst'
  | un=>exact lv_un h hst' hps
  | post=>exact lv_post h hst'
  | atom=>exact lv_atom h hst hps hsz
  | behind=>exact lv_behind h hst' ⟨hn,hps⟩
  | brk=>exact lv_brk h hst ⟨hn,hps⟩
 | sign s=>
  obtain⟨rfl,ha,p0,p1,rfl,h0,h1⟩:=hF;exact callV_fn (trn_sign s p0 p1 ha h h0 h1)
 | made x f=>
  obtain⟨eb,rfl,he,p0,p1,p2,rfl,h0,h1,h2⟩:=hF;exact callV_fn (trn_made x f eb p0 p1 p2 h hn hps hsz he (hv eb List.mem_cons_self) h0 h1 h2)
 | right s k o=>
  obtain⟨rfl,ha,p0,p1,p2,p3,rfl,h0,h1,h2,h3⟩:=hF;exact callV_fn (trn_right s k o p0 p1 p2 p3 ha h (by omega) ⟨hn,hps⟩ h0 h1 h2 h3)
 | left ops side=>
  obtain⟨rfl,zs,rfl,hz,p0,p1,p2,p3,g,c1,rfl,h0,h1,h2,h3,h4⟩:=hF;exact callV_fn (trn_left zs side p0 p1 p2 p3 g c1 hz h (by omega) ⟨hn,hps⟩ h0 h1 h2 h3 h4)
 | once ops side=>
  obtain⟨rfl,zs,rfl,hz,p0,p1,p2,g,c1,rfl,h0,h1,h2,h3⟩:=hF;exact callV_fn (trn_once zs side p0 p1 p2 g c1 hz h (by omega) ⟨hn,hps⟩ h0 h1 h2 h3)
 | list shut ev x f=>
  obtain⟨eb,rfl,he,ha,p0,p1,p2,p3,vt,rfl,h0,h1,h2,h3,ht⟩:=hF
  cases ev with
  | false=>
   obtain⟨q0,q1,q2,rfl,k0,k1,k2⟩:=(show MadeAt L w b eb f vt from ht);exact callV_fn (trn_list_made shut x f eb p0 p1 p2 p3 q0 q1 q2 ha h hst hn hps hsz he (hv eb List.mem_cons_self) h0 h1 h2 h3 k0 k1 k2)
  | true=>
   obtain⟨a0,a1,a2,vm,rfl,j0,j1,hm,j2⟩:=(show EveryAt L w b eb f vt from ht);have hm':=hm;obtain⟨q0,q1,q2,rfl,k0,k1,k2⟩:=hm;exact callV_fn (trn_list_every shut x f eb p0 p1 p2 p3 q0 q1 q2 a0 a1 a2 ha h hst hn hps hsz he (hv eb List.mem_cons_self) h0 h1 h2 h3 j0 j1 j2 hm')
 | more x f=>
  obtain⟨eb,hma,p0,p1,p2,p3,p4,vm,rfl,h0,h1,h2,hm,h3,h4⟩:=hF;obtain⟨q0,q1,q2,rfl,k0,k1,k2⟩:=hm;have hna:x.arms.length≤1000000:=by have:=hn.2;omega
  have heb:eb∈ft:=by
   obtain⟨_,_,_,_,_,h5,_⟩:=hma;rw[h5];exact List.mem_cons_self
  exact callV_fn (trn_more x f eb p0 p1 p2 p3 p4 q0 q1 q2 h hst hn.1 hps hsz hma hna (hv eb heb) h0 h1 h2 h3 h4 k0 k1 k2)
end
end
section
open Go.RowKit Go.Sort
section
variable {w w1 w2 w':World}{b:Nat}{A:Option Addr}{n c:Nat}{all r r' r2:List Tk}{va va1 vp:Value}{st:List Value}{ps:List Ex}{sz:Nat}{L L1 L2 S ft:List Nat}
theorem mem_pop{v:Value}(h:Mem w b A n c all r va (v::st) vp ps sz L):∃ g cap,va=.slice (some ⟨g,0,none⟩) (st.length+1) cap∧w.cell? ⟨g,st.length,none⟩=some v∧st.length+1≤cap ∧
 Mem (w.setCell ⟨b,2,none⟩ (.slice (some ⟨g,0,none⟩) st.length cap)) b A n c all r (.slice (some ⟨g,0,none⟩) st.length cap) st vp ps sz L∧Tn [b] L L w (w.setCell ⟨b,2,none⟩ (.slice (some ⟨g,0,none⟩) st.length cap)):=by
 have hoa:=h.oa;rcases hoa.2 with⟨_,h2⟩|⟨g,cap,cur,h1,hg,hh,h2,h3,h4,h5⟩
 · simp at h2
 · have hcell:w.cell? ⟨g,st.length,none⟩=some v:=by
    have hb:va=.slice (some ⟨g,0,none⟩) (st.length+1) cap:=h1;rw[hb] at hoa;have:=hoa.cellAt st.length (by simp)
    simpa using this
   have hoth:∀ k,k≠b→(w.setCell ⟨b,2,none⟩ (.slice (some ⟨g,0,none⟩) st.length cap)).heap[k]?=w.heap[k]?:=fun k hk=>heap_setCell_other _ _ _ _ hk;have ht:Tn [b] L L w (w.setCell ⟨b,2,none⟩ (.slice (some ⟨g,0,none⟩) st.length cap)):=⟨rfl,rfl,rfl,by simp,fun k _ hn=>hoth k (fun e=>hn (by simp[e])),fun k hk=>.inl hk,fun k hk _=>hk⟩;obtain⟨cs,k1,k2⟩:=h.op;have hgb:g≠b:=fun e=>h.va_ne (by rw[h1,e];rfl)
   have hown:w.ownsRow 0 1 1 (.slice (some ⟨g,0,none⟩) st.length cap) st.length st.reverse:=by
    refine⟨by simp,.inr ⟨g,cap,cur,rfl,hg,hh,by simp at h2;omega,h3,h4,?_⟩⟩
    have:cur.toList.take (st.length*1)=(cur.toList.take ((v::st).length*1)).take (st.length*1):=by
     rw[List.take_take]
     congr 1
     simp
    rw[this,h5]
    simp
   refine⟨g,cap,h1,hcell,by simpa using h2,⟨?_,h.rd.up ht.ups (ht.up (b_sub h)),h.len,h.pre,h.fin,h.tks,own_other hown fun k hk=>hoth k fun e=>hgb ?_,⟨cs,own_other k1 fun k hk=>hoth k fun e=>h.vp_ne (e ▸ hk),flX_up ht.ups (ht.up (b_sub h)) k2⟩,h.lb,fun k hk=>h.la k (by rw[h1];exact hk),h.lp,fun k hk=>by simpa using h.lv k hk⟩,ht⟩
   · rw[setCell_eq_setRow _ _ _ _ _ _ _ h.row,setRow_heap _ _ _ _ _ _ h.row];rfl
   · rw[e] at hk;injection hk
theorem whole1_pan(p:Nat)(x:Bool)(u:TypeId)(pv:Value)(older:List PanicEntry)(w:World)(hc:w.cell? ⟨p,0,none⟩=some (.bool x))(hz:w.frozen? ⟨p,0,none⟩=false):
 CallsD Tryz.prog 49 #[rp p] (.panicking ({ v:=.iface u pv,recovered:=false }::older)) w fun e u' w' =>
  e=.returned (.tuple #[])∧u'=.panicking ({ v:=.iface u pv,recovered:=true }::older)∧w'=w.setCell ⟨p,0,none⟩ (.bool false):=by
 refine callsD_of_wpS Tryz.func49 rfl fun c₀ cs hu=>?_
 apply wpS_region
 simp[wpOpsS,go_sem,recoverD,hu,Tryz.ntmps49,Exit.thenS,hc,hz,bodyPostS,results,Tryz.results49]
theorem whole1_idle(p:Nat)(x:Bool)(w:World)(hc:w.cell? ⟨p,0,none⟩=some (.bool x))(hz:w.frozen? ⟨p,0,none⟩=false):
 CallsD Tryz.prog 49 #[rp p] .returning w fun e u' w'=>e=.returned (.tuple #[])∧u'=.returning∧w'=w.setCell ⟨p,0,none⟩ (.bool true):=by
 refine callsD_of_wpS Tryz.func49 rfl fun c₀ cs hu=>?_
 apply wpS_region
 simp[wpOpsS,go_sem,recoverD,hu,Tryz.ntmps49,Exit.thenS,hc,hz,bodyPostS,results,Tryz.results49]
 rw[← hu]
def Bx(L:List Nat)(w:World)(p:Nat)(cs:Array Value)(T:TypeId):Prop:=p∉L∧w.heap[p]?=some (.cells cs T)
theorem Bx.up{p:Nat}{cs:Array Value}{T:TypeId}(k:Bx L w p cs T)(h:Tn S L L1 w w1)(hS:∀ k∈S,k∈L):Bx L1 w1 p cs T:=by
 have hlt:=(Array.getElem?_eq_some_iff.1 k.2).1;refine⟨fun hp=>?_,(h.block p hlt fun hp=>k.1 (hS p hp)).trans k.2⟩;rcases h.live p hp with h1 | h1
 · exact k.1 h1
 · omega
theorem Bx.cell{p:Nat}{v:Value}{T:TypeId}(k:Bx L w p #[v] T):w.cell? ⟨p,0,none⟩=some v:=by
 unfold World.cell?;rw[k.2];rfl
theorem Bx.fz{p:Nat}{cs:Array Value}{T:TypeId}(k:Bx L w p cs T)(j:Nat):w.frozen? ⟨p,j,none⟩=false:=by
 unfold World.frozen?;rw[k.2];rfl
theorem least{P:Nat→Prop}(h:∃ k,P k):∃ m,P m∧∀ k,P k→m≤k:=by
 obtain⟨k,hk⟩:=h
 induction k using Nat.strongRecOn with
 | ind k ih=>
  by_cases hx:∃ j,j<k∧P j
  · obtain⟨j,hj,hp⟩:=hx;exact ih j hj hp
  · exact⟨k,hk,fun j hj=>Nat.le_of_not_lt fun hl=>hx ⟨j,hl,hj⟩⟩
open Classical in
noncomputable def lst(P:Nat→Prop):Nat:=if h:∃ k,P k then Classical.choose (least h) else 0
theorem lst_spec{P:Nat→Prop}(h:∃ k,P k):P (lst P)∧∀ k,P k→lst P≤k:=by
 unfold lst;rw[dif_pos h];exact Classical.choose_spec (least h)
end
end
section
open Go.RowKit Go.Sort
section
variable {w w1 w2 w':World}{b:Nat}{A:Option Addr}{n c:Nat}{all r r' r2:List Tk}{va va1 vp:Value}{st:List Value}{ps:List Ex}{sz:Nat}{L L1 L2 S ft:List Nat}
structure Turns (b:Nat) (A:Option Addr) (n c:Nat) (all:List Tk) (I:Nat→List Nat→World→Prop) (Done:List Nat→World→Prop) (Bad:World→Prop):Prop where
 at_:∀ k L w,I k L w→∃ r va st vp ps sz,Mem w b A n c all r va st vp ps sz L∧st.length≤900000∧(st=[]→Done L w) ∧
  ∀ v st',st=v::st'→∀ g cap,va=.slice (some ⟨g,0,none⟩) (st'.length+1) cap→∀ w',w'=w.setCell ⟨b,2,none⟩ (.slice (some ⟨g,0,none⟩) st'.length cap)→Mem w' b A n c all r (.slice (some ⟨g,0,none⟩) st'.length cap) st' vp ps sz L→Tn [b] L L w w' →
   CallV v w' (fun e w2=>(e=.returned (.tuple #[])∧∃ k' L',k' < k∧I k' L' w2∧∃ S,Tn S L L' w' w2∧∀ j∈S,j∈L)∨(e=Pan∧Bad w2∧∃ S L',Tn S L L' w' w2∧∀ j∈S,j∈L))
theorem Bx.set{p:Nat}{x:Value}{T:TypeId}(k:Bx L w p #[x] T)(v:Value):Bx L (w.setCell ⟨p,0,none⟩ v) p #[v] T:=⟨k.1,by
 rw[setCell_eq_setRow _ _ _ _ _ _ _ k.2,setRow_heap _ _ _ _ _ _ k.2];rfl⟩
structure Beside (p:Nat) (w w':World):Prop where
 os:w'.os=w.os
 tape:w'.tape=w.tape
 output:w'.output=w.output
 size:w'.heap.size=w.heap.size
 block:∀ k,k≠p→w'.heap[k]?=w.heap[k]?
theorem beside_set(p:Nat)(v:Value)(w:World):Beside p w (w.setCell ⟨p,0,none⟩ v):=⟨rfl,rfl,rfl,by simp,fun k hk=>heap_setCell_other _ _ _ _ hk⟩
theorem Beside.trans{p:Nat}(h:Beside p w w1)(k:Beside p w1 w2):Beside p w w2:=⟨k.os.trans h.os,k.tape.trans h.tape,k.output.trans h.output,k.size.trans h.size,fun j hj=>(k.block j hj).trans (h.block j hj)⟩
theorem rrWhole{I:Nat→List Nat→World→Prop}{Done:List Nat→World→Prop}{Bad:World→Prop}(HT:Turns b A n c all I Done Bad)(ff:Fn)(fa fc:Array Value)(h:Mem w b A n c all r va [] vp ps sz L)
 (h0:∀ w0 w1 va1 L1,Below w.heap.size w w0→Mem w1 b A n c all r va1 [.func ff fa fc] vp ps sz L1→Tn (pushS b va) L L1 w0 w1→GoesV w0 va va1→∃ k,I k L1 w1):
 Calls Tryz.prog 24 #[rp b,.func ff fa fc] w fun e w'=>∃ w2,Beside w.heap.size w2 w'∧((e=.returned (.bool true)∧∃ L',Done L' w2∧w2.heap[w.heap.size]?=some (.cells #[.bool false] 4))∨(e=.returned (.bool false)∧Bad w2)):=by
 have hmf:∀ (fn:Fn) (first cap:Array Value) (w:World),(Instr.makeFunc fn first cap).run Tryz.prog w=.ok (.func fn first cap) w:=fun _ _ _ _=>rfl;have HM:=Hd h;have H0:=Hd h0;have HT:=Hd HT;clear h h0
 go_enter_defers Tryz.func24,Tryz.ntmps24
 go_wp2_with fail
 have hN:=news (w:=w) (l:=[(#[.bool false],4),(#[.func ff fa fc],1)]) rfl;refine(rrNextN [.func ff fa fc] _ 1 _ (by simp) HM.out (by simp) hN rfl (fns_cons fns_nil) (HM.out.below hN.below) (not_in HM.out.lv 1)).mono ?_;rintro e w1 ⟨rfl,va1,L1,hM1,hT1,hg1⟩;have HI1:=Hd (H0.out _ w1 va1 L1 hN.below hM1 hT1 hg1);have HZ1:=Hd (Bx.up (L:=L) ⟨not_in HM.out.lv 0,hN.at_ 0 _ rfl⟩ hT1 (push_sub HM.out));clear hM1 hT1 hg1 hN;generalize his:w.heap.size=is_ at *;simp only[Nat.add_zero] at HZ1
 go_wp2_with fail
 go_loopw [] (fun wr=>∃ k L,I k L wr∧Bx L wr is_ #[.bool false] 4) (fun wr=>lst (fun k=>∃ L,I k L wr∧Bx L wr is_ #[.bool false] 4))
 case atStart=>
  obtain⟨k,hk⟩:=HI1.out;exact⟨k,L1,hk,HZ1.out⟩
 case round=>
  have hls:=lst_spec hrel;have HML:=Hd hls.2;obtain⟨L2,hI2,hZ2⟩:=hls.1;clear hls hrel;generalize hmm:lst (fun k=>∃ L,I k L wr∧Bx L wr is_ #[.bool false] 4)=m at *;have HMM:=Hd hmm;clear hmm;have HZ2:=Hd hZ2;obtain⟨r2,va2,st2,vp2,ps2,sz2,hM2,hst2,hd2,ht2⟩:=HT.out.at_ m L2 wr hI2;clear hZ2 hI2 HI1 HZ1 H0
  cases st2 with
  | nil=>
   have HD:=Hd (hd2 rfl)
   obtain⟨A2,c2,rfl⟩:∃ A2 c2,va2=.slice A2 0 c2:=by
    rcases hM2.oa.2 with⟨h1,_⟩|⟨g,cap,cur,h1,_⟩
    · exact⟨_,_,h1⟩
    · exact⟨_,_,h1⟩
   have q2:wr.cell? ⟨b,2,none⟩=some (.slice A2 0 c2):=hM2.cell 2;have HM2:=Hd hM2;have z0:=HZ2.out.cell;have z1:=HZ2.out.fz 0;clear hM2 ht2 hd2 hst2
   go_wp2_with fail
   have y0:(wr.setCell ⟨is_,0,none⟩ (.bool true)).cell? ⟨is_,0,none⟩=some (.bool true):=(HZ2.out.set _).cell;have y1:(wr.setCell ⟨is_,0,none⟩ (.bool true)).frozen? ⟨is_,0,none⟩=false:=(HZ2.out.set _).fz 0;have y2:((wr.setCell ⟨is_,0,none⟩ (.bool true)).setCell ⟨is_,0,none⟩ (.bool true)).cell? ⟨is_,0,none⟩=some (.bool true):=((HZ2.out.set _).set _).cell;refine leaves_cons (f:=49) (args:=#[rp is_]) (by simp) (by simp[go_sem]) ?_;refine(whole1_idle is_ true _ y0 y1).mono ?_;rintro e u' w'' ⟨rfl,rfl,rfl⟩
   simp[Leaves,settle,results,Tryz.results24,go_sem,y2]
   exact⟨wr,by rw[his];exact(beside_set _ _ _).trans (beside_set _ _ _),⟨L2,HD.out⟩,by rw[his];exact HZ2.out.2⟩
  | cons v st' =>
   obtain⟨g,cap,rfl,hc,hcap,hMp,hTp⟩:=mem_pop hM2;obtain⟨K,a,c',rfl,hK,hcalls⟩:=ht2 v st' rfl g cap rfl _ rfl hMp hTp;have q2:wr.cell? ⟨b,2,none⟩=some (.slice (some ⟨g,0,none⟩) (st'.length+1) cap):=hM2.cell 2;have f2:=hM2.q.fz 2;have HMP:=Hd hMp;have HCA:=Hd hcalls;have HZP:=Hd (HZ2.out.up hTp (b_sub hM2));clear hM2 ht2 hd2 hMp hcalls hTp;simp only[List.length_cons] at hst2;generalize st'.length=m' at *
   go_wp2_with fail
   refine HCA.out.mono ?_;rintro e w2 (⟨rfl,k',L',hk,hI,S,hT,hS⟩|⟨rfl,hB,S,L',hT,hS⟩)
   · have HI3:=Hd hI;have HZ3:=Hd (HZP.out.up hT hS);have HK3:=Hd hk;clear hI hT hS hk
     go_wp2_with fail
     go_roundw
     case rel=>exact⟨k',L',HI3.out,HZ3.out⟩
     case measure=>
      exact Nat.lt_of_le_of_lt ((lst_spec (P:=fun k=>∃ L,I k L w2∧Bx L w2 is_ #[.bool false] 4) ⟨k',L',HI3.out,HZ3.out⟩).2 k' ⟨L',HI3.out,HZ3.out⟩) HK3.out
   · have HB:=Hd hB;have HZ3:=Hd (HZP.out.up hT hS);clear hB hT hS
     go_wp2_with fail
     have y2:(w2.setCell ⟨is_,0,none⟩ (.bool false)).cell? ⟨is_,0,none⟩=some (.bool false):=(HZ3.out.set _).cell;refine leaves_cons (f:=49) (args:=#[rp is_]) (by simp) (by simp[go_sem]) ?_;refine(whole1_pan is_ false _ _ [] w2 HZ3.out.cell (HZ3.out.fz 0)).mono ?_;rintro e u' w'' ⟨rfl,rfl,rfl⟩
     simp[Leaves,settle,results,Tryz.results24,go_sem,y2]
     exact⟨w2,by rw[his];exact beside_set _ _ _,HB.out⟩
end
end
section
open Go.RowKit Go.Sort
section
variable {w w0 w1 w2 w':World}{b:Nat}{A:Option Addr}{n c:Nat}{all r r' r2:List Tk}{va va1 vp:Value}{st:List Value}{ps:List Ex}{sz:Nat}{L L1 L2 S ft:List Nat}
theorem CallV.mono{v:Value}{Q Q':Ending→World→Prop}(h:CallV v w Q)(k:∀ e w1,Q e w1→Q' e w1):CallV v w Q':=by
 obtain⟨K,a,c,h1,h2,h3⟩:=h;exact⟨K,a,c,h1,h2,h3.mono k⟩
theorem FrAt.sub{f:Fr}{v:Value}(h:FrAt L w b f v ft):∀ k∈ft,k∈L:=by
 intro k hk
 cases f with
 | m l=>rw[h.1] at hk;exact absurd hk List.not_mem_nil
 | sign s=>rw[h.1] at hk;exact absurd hk List.not_mem_nil
 | made x f=>
  obtain⟨eb,h1,h2,_⟩:=h;rw[h1,List.mem_singleton] at hk;rw[hk];exact h2.1
 | right s k o=>rw[h.1] at hk;exact absurd hk List.not_mem_nil
 | left ops side=>rw[h.1] at hk;exact absurd hk List.not_mem_nil
 | once ops side=>rw[h.1] at hk;exact absurd hk List.not_mem_nil
 | list shut ev x f=>
  obtain⟨eb,h1,h2,_⟩:=h;rw[h1,List.mem_singleton] at hk;rw[hk];exact h2.1
 | more x f=>
  obtain⟨eb,⟨_,_,_,_,_,_,h3⟩,_⟩:=h;exact h3 k hk
theorem FrsAt.sub:∀ {fs:List Fr}{vs:List Value}{ft:List Nat},FrsAt L w b fs vs ft→∀ k∈ft,k∈L
 | [],[],ft,h,k,hk=>by
  rw[show ft=[] from h] at hk;exact absurd hk List.not_mem_nil
 | f::fs,v::vs,ft,⟨f1,f2,e,h1,h2⟩,k,hk=>by
  rw[e,List.mem_append] at hk;exact hk.elim (h1.sub k) (FrsAt.sub h2 k)
 | [],v::vs,ft,h,k,hk=>h.elim
 | f::fs,[],ft,h,k,hk=>h.elim
theorem FrsAt.len:∀ {fs:List Fr}{vs:List Value}{ft:List Nat},FrsAt L w b fs vs ft→fs.length=vs.length
 | [],[],ft,h=>rfl
 | f::fs,v::vs,ft,⟨f1,f2,e,h1,h2⟩=>by simp[FrsAt.len h2]
 | [],v::vs,ft,h=>h.elim
 | f::fs,[],ft,h=>h.elim
theorem endM_inv{f:Fr}{fs:List Fr}{res:PR (List Ex × Nat)→Prop}(h:EndM (f::fs) ps sz r res):EndO (stepF f ps sz r) fs res:=by
 obtain⟨k,h⟩:=h
 cases k with
 | zero=>cases h.1
 | succ k=>
  unfold EndO;simp only[Ends] at h
  split at h
  · exact⟨k,h⟩
  · exact h
theorem endM_done{res:PR (List Ex × Nat)→Prop}(h:EndM [] ps sz r res):res (.ok (ps,sz) r):=by
 obtain⟨k,h⟩:=h
 cases k with
 | zero=>exact h.2
 | succ k=>exact h.elim
theorem tn_below{m:Nat}(h:Below m w0 w)(ht:Tn S L L1 w w1)(hS:∀ j∈S,m≤j)(hm:m≤w0.heap.size):Below m w0 w1:=
 ⟨ht.os.trans h.os,ht.tape.trans h.tape,ht.output.trans h.output,Nat.le_trans h.size ht.size,fun k hk=>(ht.block k (Nat.lt_of_lt_of_le hk (Nat.le_trans hm h.size)) fun hs=>by have:=hS k hs;omega).trans (h.block k hk)⟩
def IM(b:Nat)(A:Option Addr)(n c:Nat)(all:List Tk)(m:Nat)(w0:World)(b0:Nat)(res:PR (List Ex × Nat)→Prop)(K B:Nat)(k:Nat)(L:List Nat)(w:World):Prop:=
 ∃ r va st vp ps sz fs fts,Mem w b A n c all r va st vp ps sz L∧FrsAt L w b fs st fts∧fts.Nodup∧(∀ j∈fts,j≠b∧va.ownBlock≠some j∧vp.ownBlock≠some j)∧EndM fs ps sz r res∧Fits K fs ps.length r.length ∧
  k=wFs fs+64*r.length∧k+ps.length≤B∧k+sz≤B∧r.length≤K∧(∀ j∈turnS b va vp fts,m≤j)∧(∀ j,j<m→j≠b0→j∈L)∧Below m w0 w
def DoneM(b:Nat)(A:Option Addr)(n c:Nat)(all:List Tk)(m:Nat)(w0:World)(b0:Nat)(res:PR (List Ex × Nat)→Prop)(B:Nat)(L:List Nat)(w:World):Prop:=
 ∃ r va vp ps sz,Mem w b A n c all r va [] vp ps sz L∧res (.ok (ps,sz) r)∧ps.length≤B∧sz≤B∧(∀ j,j<m→j≠b0→j∈L)∧Below m w0 w
def BadM(b:Nat)(A:Option Addr)(n c:Nat)(m:Nat)(w0:World)(res:PR (List Ex × Nat)→Prop)(w:World):Prop:=
 ∃ q,res (.bad q)∧Below m w0 w∧∃ va' vp' sz',w.heap[b]?=some (.cells (rdA (.slice A n c) ((n-q.length:Nat):Int) va' vp' sz') 60)
theorem turns_machine{m b0 K B:Nat}{res:PR (List Ex × Nat)→Prop}(hm:m≤w0.heap.size)(hB:B≤900000)(hK:K≤1000000):
 Turns b A n c all (IM b A n c all m w0 b0 res K B) (DoneM b A n c all m w0 b0 res B) (BadM b A n c m w0 res) where
 at_:=by
  intro k L w ⟨r,va,st,vp,ps,sz,fs,fts,hM,hF,hnd,hsp,hE,hfit,hk,hb1,hb2,hrK,hSm,hLm,hbl⟩;have hlen:=hF.len;have hwl:=wFs_len fs;refine⟨r,va,st,vp,ps,sz,hM,by omega,fun hst=>?_,?_⟩
  · subst hst;have:fs=[]:=List.eq_nil_of_length_eq_zero hlen;subst this;exact⟨r,va,vp,ps,sz,hM,endM_done hE,by omega,by omega,hLm,hbl⟩
  · intro v st' hst g cap hva w' hw' hMp hTp;subst hst
    cases fs with
    | nil=>exact hF.elim
    | cons f fs' =>
     obtain⟨f1,f2,he,hf1,hf2⟩:=hF;subst he;have hbs:=b_sub hM;have hnb:∀ j∈f1++f2,j∉[b]:=fun j hj hjb=>(hsp j hj).1 (List.mem_singleton.1 hjb);have hf1p:=hf1.up hTp hbs (fun j hj=>hnb j (List.mem_append_left _ hj));have hf2p:=hf2.up hTp hbs (fun j hj=>hnb j (List.mem_append_right _ hj));have hnd2:=List.nodup_append.1 hnd;simp only[List.length_cons] at hlen hwl;refine(turn_all (K:=K) hMp (by omega) (by omega) (by omega) hK hfit.1 hf1p (fun j hj=>(hsp j (List.mem_append_left _ hj)).2.2)).mono fun e w2 hT=>?_;have hE2:=endM_inv hE;have hok:=step_ok (sz:=sz) (K:=K) f hM.fin hrK hfit.1;have hbm:m≤b:=hSm b List.mem_cons_self;have hblp:Below m w0 w':=tn_below hbl hTp (fun j hj=>by rw[List.mem_singleton.1 hj];exact hbm) hm;have hvw:va.ownBlock=some g:=by rw[hva];rfl
     have hSm1:∀ j∈turnS b (.slice (some ⟨g,0,none⟩) st'.length cap) vp f1,m≤j:=fun j hj=>hSm j (by
      simp only[turnS,List.mem_cons,List.mem_append,Option.mem_toList,hvw] at hj ⊢;rcases hj with hj | hj | hj | hj
      · exact .inl hj
      · exact .inr (.inl hj)
      · exact .inr (.inr (.inl hj))
      · exact .inr (.inr (.inr (.inl hj))))
     cases ho:stepF f ps sz r with
     | bad q=>
      rw[ho] at hT hE2;obtain⟨h1,⟨L',hT2⟩,hrow⟩:=hT;have hS:∀ j∈turnS b (.slice (some ⟨g,0,none⟩) st'.length cap) vp f1,j∈L:=turnS_sub hMp hf1.sub;exact .inr ⟨h1,⟨q,hE2,tn_below hblp hT2 hSm1 hm,hrow⟩,_,L',hT2,hS⟩
     | ok z r2=>
      rw[ho] at hT hE2 hok;obtain⟨h1,va',vp',L',vt,fts',hM2,hF2,hT2,hn2,hfo,hsp2,hg1,hg2⟩:=hT;obtain⟨o1,o2,o3,o4,o5,o6⟩:=hok;have hS:∀ j∈turnS b (.slice (some ⟨g,0,none⟩) st'.length cap) vp f1,j∈L:=turnS_sub hMp hf1.sub;have hf2lt:∀ j∈f2,j<w'.heap.size:=fun j hj=>hMp.lv j (hf2.sub j hj)
      have hf2S:∀ j∈f2,j∉turnS b (.slice (some ⟨g,0,none⟩) st'.length cap) vp f1:=fun j hj hjs=>by
       obtain⟨s1,s2,s3⟩:=hsp j (List.mem_append_right _ hj);simp only[turnS,List.mem_cons,List.mem_append,Option.mem_toList] at hjs;rcases hjs with hjs | hjs | hjs | hjs
       · exact s1 hjs
       · exact s2 (hvw.trans hjs)
       · exact s3 hjs
       · exact hnd2.2.2 j hjs j hj rfl
      have hf2q:=hf2p.up hT2 hS hf2S
      have hlv:∀ j,j<m→j≠b0→j∈L':=fun j hj hj0=>hT2.stay j (hLm j hj hj0) fun hs=>by
       have:=hSm1 j hs;omega
      have hmw:m≤w'.heap.size:=Nat.le_trans hm hblp.size
      have hSm2:∀ j∈turnS b va' vp' (fts'++f2),m≤j:=fun j hj=>by
       simp only[turnS,List.mem_cons,List.mem_append,Option.mem_toList] at hj;rcases hj with hj | hj | hj | hj | hj
       · rw[hj];exact hbm
       · rcases hg1 with hg1 | hg1
         · exact hSm1 j (by rw[hg1] at hj;simp[turnS,hj])
         · exact Nat.le_trans hmw (hg1 j hj)
       · rcases hg2 with hg2 | hg2
         · exact hSm1 j (by rw[hg2] at hj;simp[turnS,hj])
         · exact Nat.le_trans hmw (hg2 j hj)
       · rcases hfo j hj with hj | hj
         · exact hSm1 j (turnS_f j hj)
         · exact Nat.le_trans hmw hj
       · exact hSm j (turnS_f j (List.mem_append_right _ hj))
      refine .inl ⟨h1,wFs (z.1++fs')+64*r2.length,L',?_,⟨r2,va',vt++st',vp',z.2.1,z.2.2,z.1++fs',fts'++f2,hM2,hf2q.append hF2,?_,?_,hE2,Fits.append o5 ?_,rfl,?_,?_,by omega,hSm2,hlv,tn_below hblp hT2 hSm1 hm⟩,_,hT2,hS⟩
      · rw[wFs_append,hk];simp only[wFs];omega
      · refine List.nodup_append.2 ⟨hn2,hnd2.2.1,fun i hi j hj hij=>?_⟩;subst hij;rcases hfo i hi with hi1 | hi1
        · exact hnd2.2.2 i hi1 i hj rfl
        · have:=hf2lt i hj;omega
      · intro j hj;rcases List.mem_append.1 hj with hj | hj
        · exact hsp2 j hj
        · obtain⟨s1,s2,s3⟩:=hsp j (List.mem_append_right _ hj);have hlt:=hf2lt j hj;refine⟨s1,fun hh=>?_,fun hh=>?_⟩
          · rcases hg1 with hg1 | hg1
            · exact s2 (by rw[hvw,← hh,hg1];rfl)
            · have:=hg1 j hh;omega
          · rcases hg2 with hg2 | hg2
            · exact s3 (by rw[← hh,hg2])
            · have:=hg2 j hh;omega
      · rw[o6];exact Fits.mono o4 hfit.2
      · rw[wFs_append];rw[hk] at hb1;simp only[wFs] at hb1;omega
      · rw[wFs_append];rw[hk] at hb2;simp only[wFs] at hb2;omega
end
end
section
open Go.RowKit Go.Sort
section
variable {w w':World}
theorem rdT_upT{A:Option Addr}{n:Nat}{ss:List ByteArray}(h:RdT w A n ss)(hs:w.heap.size≤w'.heap.size)(hk:∀ p v,(∀ t,v≠.bool t)→w.cell? p=some v→w'.cell? p=some v):RdT w' A n ss:=
 ⟨h.1,h.2.1,fun hn=>by
  obtain⟨b,off,e,hb,hc⟩:=h.2.2 hn;exact⟨b,off,e,by omega,fun i hi=>hk _ _ (fun t e=>by cases e) (hc i hi)⟩⟩
theorem exL_noBool{x:Ex}{A B:Option Addr}{ca cb:Nat}{j:Nat}{v:Value}(h:(exL x A ca B cb)[j]?=some v)(t:Bool):v≠.bool t:=by
 intro e;subst e
 match j,h with
 | 0,h=>simp[exL] at h
 | 1,h=>simp[exL] at h
 | 2,h=>simp[exL] at h
 | 3,h=>simp[exL] at h
 | 4,h=>simp[exL] at h
 | 5,h=>simp[exL] at h
 | k+6,h=>simp[exL] at h
mutual
theorem rdX_upT(hs:w.heap.size≤w'.heap.size)(hk:∀ p v,(∀ t,v≠.bool t)→w.cell? p=some v→w'.cell? p=some v):∀ (x:Ex) (A B:Option Addr),rdX w x A B→rdX w' x A B
 | .mk _ _ _ _ arms subs,A,B,h=>by
  simp only[rdX] at h ⊢;refine⟨rdT_upT h.1 hs hk,h.2.1,fun hn=>?_⟩;obtain⟨b,off,e,hb,hr⟩:=h.2.2 hn;exact⟨b,off,e,by omega,rdXs_upT hs hk subs b off hr⟩
theorem rdXs_upT(hs:w.heap.size≤w'.heap.size)(hk:∀ p v,(∀ t,v≠.bool t)→w.cell? p=some v→w'.cell? p=some v):∀ (l:List Ex) (b off:Nat),rdXs w l b off→rdXs w' l b off
 | [],_,_,_=>by simp only[rdXs]
 | x::l,b,off,h=>by
  simp only[rdXs] at h ⊢;obtain⟨⟨A,ca,B,cb,h1,h2⟩,h3⟩:=h;exact⟨⟨A,ca,B,cb,fun j v hv=>hk _ _ (exL_noBool hv) (h1 j v hv),rdX_upT hs hk x A B h2⟩,rdXs_upT hs hk l b (off+6) h3⟩
end
end
section
variable {w w0 w1 w2 w':World}{b:Nat}{A:Option Addr}{n c:Nat}{all r r' r2:List Tk}{va va1 vp:Value}{st:List Value}{ps:List Ex}{sz:Nat}{L L1 L2 S ft:List Nat}
def blM(m b0:Nat)(w:World):World:={ w with heap:=w.heap.mapIdx fun i o=>if i<m∧i≠b0 then .cells #[] 0 else o }
theorem blM_size{m b0:Nat}{w:World}:(blM m b0 w).heap.size=w.heap.size:=by simp[blM]
theorem blM_cell{m b0:Nat}{w:World}{p:Addr}(h:¬ (p.block<m∧p.block≠b0)):(blM m b0 w).cell? p=w.cell? p:=by
 unfold World.cell? blM;simp only[Array.getElem?_mapIdx]
 cases w.heap[p.block]? with
 | none=>rfl
 | some o=>simp only[Option.map_some,if_neg h]
theorem blM_some{m b0:Nat}{w:World}{p:Addr}{v:Value}(h:(blM m b0 w).cell? p=some v):w.cell? p=some v∧¬ (p.block<m∧p.block≠b0):=by
 by_cases hp:p.block<m∧p.block≠b0
 · unfold World.cell? blM at h;simp only[Array.getElem?_mapIdx] at h
   cases hh:w.heap[p.block]? with
   | none=>rw[hh] at h;cases h
   | some o=>
    rw[hh] at h;simp only[Option.map_some,if_pos hp] at h
    split at h <;> simp at h
 · exact⟨by rwa [blM_cell hp] at h,hp⟩
theorem rdX_blM{m b0:Nat}{x:Ex}{A B:Option Addr}{w w':World}(h:rdX (blM m b0 w) x A B)(hs:w.heap.size≤w'.heap.size)(hk:∀ k,¬ (k<m∧k≠b0)→k<w.heap.size→w'.heap[k]?=w.heap[k]?):rdX (blM m b0 w') x A B:=
 rdX_up (by rw[blM_size,blM_size];exact hs) (fun p v hc=>by
  obtain⟨h1,h2⟩:=blM_some hc;rw[blM_cell h2];have h3:=hk p.block h2 (World.block_lt_of_cell? _ _ h1);unfold World.cell? at h1 ⊢;rw[h3];exact h1) x A B h
theorem rdX_of_blM{m b0:Nat}{x:Ex}{A B:Option Addr}{w:World}(h:rdX (blM m b0 w) x A B):rdX w x A B:=rdX_up (by rw[blM_size];exact Nat.le_refl _) (fun p v hc=>(blM_some hc).1) x A B h
theorem rdX_blM_le{m m' b0:Nat}{x:Ex}{A B:Option Addr}{w:World}(h:rdX (blM m b0 w) x A B)(hm:m'≤m):rdX (blM m' b0 w) x A B:=
 rdX_up (by rw[blM_size,blM_size];exact Nat.le_refl _) (fun p v hc=>by
  obtain⟨h1,h2⟩:=blM_some hc;rw[blM_cell (fun h3=>h2 ⟨by omega,h3.2⟩)];exact h1) x A B h
def WholeOk(m b0:Nat)(w':World)(b:Nat)(A:Option Addr)(n c:Nat)(x:Ex)(r1:List Tk):Prop:=
 ∃ va g cp x1 A1 ca B1 cb,w'.heap[b]?=some (.cells (rdA (.slice A n c) ((n-r1.length:Nat):Int) va (.slice (some ⟨g,0,none⟩) 1 cp) (sizeX x)) 60) ∧
  w'.rangeAt g 0 (exL x1 A1 ca B1 cb)∧rdX (blM m b0 w') x1 A1 B1∧(sizeX x≤60→x1=x)
def WholeBad(w':World)(b:Nat)(A:Option Addr)(n c:Nat)(q:List Tk):Prop:=
 ∃ va vp sz,w'.heap[b]?=some (.cells (rdA (.slice A n c) ((n-q.length:Nat):Int) va vp sz) 60)
theorem rrReads{m b0 N:Nat}(hN:r.length≤N)(h:Mem w b A n c all r va [] vp [] 0 L)(hr:r.length≤10000)(hbm:m≤b)(hva:va.ownBlock=none)(hvp:vp.ownBlock=none)(hL0:∀ j,j<m→j≠b0→j∈L)(hmw:m≤w.heap.size):
 Calls Tryz.prog 24 #[rp b,lvV b .arrow] w fun e w'=>Below m w w'∧match (psN N).ar r with
  | .ok x r1=>e=.returned (.bool true)∧EndR r1∧r1.length<r.length∧WholeOk m b0 w' b A n c x r1
  | .bad q=>e=.returned (.bool false)∧WholeBad w' b A n c q:=by
 have hbe:∀ {w2 w':World},Below m w w2→Beside w.heap.size w2 w'→Below m w w':=fun h1 h2=>
  ⟨h2.os.trans h1.os,h2.tape.trans h1.tape,h2.output.trans h1.output,Nat.le_trans h1.size (Nat.le_of_eq h2.size.symm),fun k hk=>(h2.block k (by omega)).trans (h1.block k hk)⟩
 have hbw:=h.lt
 refine(rrWhole (turns_machine (b0:=b0) (all:=all) (c:=c) (A:=A) (n:=n) (b:=b) (m:=m) (K:=10000) (B:=700000) (w0:=w) (res:=fun res=>match (psN N).ar r with
  | .ok x r1=>∃ x1,res=.ok ([x1],sizeX x) r1∧EndR r1∧r1.length<r.length∧(sizeX x≤60→x1=x)
  | .bad r1=>res=.bad r1) hmw (by decide) (by decide)) (.func (lvF .arrow)) #[rp b] #[] h ?_).mono ?_
 · intro w0 w1 va1 L1 hb0 hM1 hT1 hg1
   have hS:∀ j∈pushS b va,m≤j:=fun j hj=>by
    simp only[pushS,List.mem_cons,hva,Option.toList_none,List.not_mem_nil,or_false] at hj;rw[hj];exact hbm
   have hb1:Below m w w0:=hb0.mono hmw;have hmw0:m≤w0.heap.size:=Nat.le_trans hmw hb0.size;refine⟨_,r,va1,_,vp,[],0,[.m .arrow],[],hM1,⟨[],[],rfl,⟨rfl,rfl⟩,rfl⟩,List.nodup_nil,fun j hj=>absurd hj List.not_mem_nil,machine_ends h.fin hN,⟨trivial,trivial⟩,rfl,?_,?_,hr,fun j hj=>?_,fun j hj hj0=>hT1.stay j (hL0 j hj hj0) fun hs=>by have:=hS j hs;omega,tn_below hb1 hT1 hS hmw⟩
   · show 18+0+64*r.length+0≤700000
     omega
   · show 18+0+64*r.length+0≤700000
     omega
   · simp only[turnS,List.mem_cons,List.mem_append,Option.mem_toList,hvp,Option.toList_none,List.not_mem_nil,or_false] at hj;rcases hj with hj | hj
     · rw[hj];exact hbm
     · rcases hg1 with hg1 | hg1
       · rw[hg1,hva] at hj
         cases hj
       · exact Nat.le_trans hmw0 (hg1 j hj)
 · rintro e w' ⟨w2,hbs,⟨rfl,L',⟨r1,va',vp',ps',sz',hM,hres,_,_,hLm,hbl⟩,hbox⟩|⟨rfl,q,hres,hbl,va',vp',sz',hrow⟩⟩
   · refine⟨hbe hbl hbs,?_⟩
     cases hp:(psN N).ar r with
     | bad q=>
      simp only[hp] at hres
      cases hres
     | ok x r2=>
      simp only[hp] at hres;obtain⟨x1,he,h1,h2,h3⟩:=hres;injection he with he1 he2;injection he1 with he3 he4;subst he2 he3 he4;refine⟨rfl,h1,h2,?_⟩;obtain⟨cs,ho,hf⟩:=hM.op
      have hup:∀ p v,(∀ t,v≠.bool t)→w2.cell? p=some v→w'.cell? p=some v:=fun p v hv hc=>by
       by_cases hpb:p.block=w.heap.size
       · exfalso
         unfold World.cell? at hc;rw[hpb,hbox] at hc;simp only at hc
         split at hc
         · cases hc
         · cases hoff:p.off with
           | zero=>
            rw[hoff] at hc
            simp at hc
            exact hv _ hc.symm
           | succ j=>
            rw[hoff] at hc
            simp at hc
       · unfold World.cell? at hc ⊢;rw[hbs.block _ hpb];exact hc
      obtain⟨A1,ca,B1,cb,cs1,hcs,hx,_⟩:=hf
      have hx':rdX (blM m b0 w') x1 A1 B1:=rdX_upT (by rw[bls_size,blM_size,hbs.size];exact Nat.le_refl _) (fun p v hv hc=>by
       obtain⟨h8,h9⟩:=bls_some hc;rw[blM_cell fun hh=>h9 (hLm _ hh.1 hh.2)];exact hup p v hv h8) x1 A1 B1 hx
      rcases ho.2 with⟨_,h9⟩|⟨g,cap,cur,h5,_,hh,_,_,_,_⟩
      · cases h9
      · have hv:vp'=.slice (some ⟨g,0,none⟩) 1 cap:=h5;subst hv;refine⟨va',g,cap,x1,A1,ca,B1,cb,(hbs.block b (by omega)).trans hM.row,fun j v hv=>?_,hx',h3⟩;refine hup _ _ (exL_noBool hv) ?_
        have hj:j<6:=by
         have:=(List.getElem?_eq_some_iff.1 hv).1
         simpa [exL] using this
        have:=ho.cellAt j (by show j<1*6;omega);rw[Nat.zero_add,this,hcs,List.getElem?_append_left (by simpa [exL] using hj)];exact hv
   · refine⟨hbe hbl hbs,?_⟩
     cases hp:(psN N).ar r with
     | ok x r2=>
      simp only[hp] at hres;obtain⟨_,he,_⟩:=hres
      cases he
     | bad q2=>
      simp only[hp] at hres;injection hres with hres;subst hres;exact⟨rfl,va',vp',sz',(hbs.block b (by omega)).trans hrow⟩
end
end
section
open Go.RowKit Go.Sort
def beginsB(all:List Tk)(at_:Int):Bool:=decide (0≤at_) && (decide (at_<(all.length:Int)) && ((all[all.length-1]?.getD default).k==6))
section
variable {w w':World}{A:Option Addr}{n c:Nat}{all:List Tk}
theorem paBegins(at_:Int)(h:RdK w A n all)(ha:-9223372036854775808≤at_∧at_≤9223372036854775807):
 Calls Tryz.prog 23 #[.slice A n c,.int .i64 at_] w fun e w'=>e=.returned (.bool (beginsB all at_))∧Below w.heap.size w w':=by
 obtain⟨hl,hmx,hc⟩:=h;have hb:beginsB all at_=(decide (0≤at_) && (decide (at_<(n:Int)) && ((all[n-1]?.getD default).k==6))):=by rw[← hl];rfl
 rw[hb];clear hb
 by_cases h0:0≤at_
 · by_cases h1:at_<(n:Int)
   · have hn:0<n:=by omega
     obtain⟨b0,off,rfl,hlt,hcells⟩:=hc hn;have t0:=(hcells (n-1) (by omega)).1;have hn0:(0:Int)≤(n:Int)-1:=by omega
     have hn1:(n:Int)-1<(n:Int):=by omega
     have hw:IntKind.i64.wrap ((n:Int)-1)=((n-1:Nat):Int):=by rw[IntKind.wrap_i64];omega
     have hn2:((n-1:Nat):Int)<(n:Int):=by omega
     have hn3:(0:Int)≤((n-1:Nat):Int):=by omega
     have hn4:n-1<n:=by omega
     generalize hm:n-1=m at *;generalize (all[m]?.getD default).k=k at *;clear hc hcells hm;have l0:=fun d os=>cell_regrown t0 d os
     go_enter Tryz.func23,Tryz.ntmps23
     go_wp2_with fail
     go_ret
     rw[decide_eq_true h0,decide_eq_true h1];exact⟨by simp,Below.refl _ _⟩
   · clear hc;have H1:=Hd h1
     go_enter Tryz.func23,Tryz.ntmps23
     go_wp2_with fail
     go_ret
     refine⟨?_,Below.refl _ _⟩;rw[show decide (at_<(n:Int))=false from decide_eq_false (by have:=H1.out;omega)]
     simp
 · clear hc;have H0:=Hd h0
   go_enter Tryz.func23,Tryz.ntmps23
   go_wp2_with fail
   go_ret
   refine⟨?_,Below.refl _ _⟩;rw[show decide (0≤at_)=false from decide_eq_false (by have:=H0.out;omega)]
   simp
end
end
end Go.Proofs.YtokiaaapgkdpmaaGreatDoor
