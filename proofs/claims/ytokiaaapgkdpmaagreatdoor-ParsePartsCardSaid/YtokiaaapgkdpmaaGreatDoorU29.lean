/- Parts: PrH, PrI, PrJ. Conditions: each theorem's own. -/
import Derived.Laws.EntriesVeiled
import Derived.Test.YtokiaaapgkdpmaaGreatDoorU28
namespace Go.Proofs.YtokiaaapgkdpmaaGreatDoor
set_option linter.unusedVariables false
set_option linter.unusedSimpArgs false
set_option maxRecDepth 100000
set_option maxHeartbeats 40000000
section
open Go.RowKit Go.Sort
def allocs:World→List (Array Value × TypeId)→World
 | w,[]=>w
 | w,x::l=>allocs (w.alloc (.cells x.1 x.2)) l
theorem news_at:∀ (l:List (Array Value × TypeId)) (w:World),Below w.heap.size w (allocs w l)∧(allocs w l).heap.size=w.heap.size+l.length∧∀ i x,l[i]?=some x→(allocs w l).heap[w.heap.size+i]?=some (.cells x.1 x.2)
 | [],w=>⟨Below.refl _ _,rfl,fun i x h=>by simp at h⟩
 | y::l,w=>by
  obtain⟨h1,h2,h3⟩:=news_at l (w.alloc (.cells y.1 y.2));have hs:(w.alloc (.cells y.1 y.2)).heap.size=w.heap.size+1:=by simp
  have hb:Below w.heap.size w (w.alloc (.cells y.1 y.2)):=(Below.refl _ _).alloc (Nat.le_refl _) _;refine⟨hb.trans (h1.mono hb.size),by rw[show(allocs w (y::l)).heap.size=_ from h2,hs,List.length_cons];omega,fun i x hx=>?_⟩
  cases i with
  | zero=>
   have:=h1.block w.heap.size (by omega);rw[Nat.add_zero];refine(show(allocs w (y::l)).heap[w.heap.size]?=_ from this).trans ?_;rw[heap_alloc_new];simp only[List.getElem?_cons_zero,Option.some.injEq] at hx;rw[hx]
  | succ i=>
   have:=h3 i x (by simpa using hx);rw[hs] at this;rw[show w.heap.size+(i+1)=w.heap.size+1+i by omega];exact this
structure News (w:World) (l:List (Array Value × TypeId)) (w':World):Prop where
 below:Below w.heap.size w w'
 size:w'.heap.size=w.heap.size+l.length
 at_:∀ i x,l[i]?=some x→w'.heap[w.heap.size+i]?=some (.cells x.1 x.2)
theorem news{w w':World}{l:List (Array Value × TypeId)}(h:allocs w l=w'):News w l w':=by
 obtain⟨h1,h2,h3⟩:=news_at l w;rw[h] at h1 h2 h3;exact⟨h1,h2,h3⟩
theorem News.cell{w w':World}{l:List (Array Value × TypeId)}(h:News w l w')(i j:Nat)(x:Array Value × TypeId)(v:Value)(hx:l[i]?=some x)(hv:x.1[j]?=some v):w'.cell? ⟨w.heap.size+i,j,none⟩=some v:=by
 unfold World.cell?;rw[h.at_ i x hx]
 simpa using hv
theorem not_in{w:World}{L:List Nat}(hL:∀ k∈L,k<w.heap.size)(i:Nat):w.heap.size+i∉L:=fun h=>by have:=hL _ h;omega
section
variable {w w1 w2 w':World}{b:Nat}{A:Option Addr}{n c:Nat}{all r r' r2:List Tk}{va va1 vp:Value}{st:List Value}{ps:List Ex}{sz:Nat}{L L1 L2 S ft:List Nat}
def Fns(l:List Value):Prop:=∀ v∈l,∃ fn a c,v=.func fn a c
theorem fns_nil:Fns []:=fun v h=>absurd h List.not_mem_nil
theorem fns_cons{fn:Fn}{a c:Array Value}{l:List Value}(h:Fns l):Fns (.func fn a c::l):=fun v hv=>by
 rcases List.mem_cons.1 hv with rfl | hv
 · exact⟨_,_,_,rfl⟩
 · exact h v hv
theorem rrNextN(l:List Value)(lst:List (Array Value × TypeId))(i:Nat)(T:TypeId)(hl:l.length≤100)(h:Mem w b A n c all r va st vp ps sz L)(hst:st.length≤1000000)(HN:News w lst w1)(hi:lst[i]?=some (l.toArray,T))(h1:Fns l)
 (h2:Mem w1 b A n c all r va st vp ps sz L2) (hL2:w.heap.size+i∉L2):
 Calls Tryz.prog 50 #[rp b,.slice (some ⟨w.heap.size+i,0,none⟩) l.length l.length] w1 fun e w'=>e=.returned (.tuple #[]) ∧
  ∃ va' L',Mem w' b A n c all r va' (l++st) vp ps sz L'∧Tn (pushS b va) L2 L' w1 w'∧GoesV w1 va va' :=
 rrNext l _ _ hl h2 (by omega) (by rw[HN.size];have:=(List.getElem?_eq_some_iff.1 hi).1;omega) hL2 (fun j hj=>HN.cell i j _ _ hi (by simp[List.getElem?_eq_getElem hj])) h1
theorem turn_into{ft1:List Nat}{o:Out}{e:Ending}(h:Mem w b A n c all r va st vp ps sz L)(hT:Tn (turnS b va vp ft) L L1 w w1)(hft:∀ k∈ft1,k∈ft∨w.heap.size≤k)(k:Turn w1 b A n c all va st vp L1 ft1 o e w'):Turn w b A n c all va st vp L ft o e w':=by
 have hS:∀ k∈turnS b va vp ft1,k∈turnS b va vp ft∨w.heap.size≤k:=fun k hk=>by
  simp only[turnS,List.mem_cons,List.mem_append] at hk ⊢;rcases hk with hk | hk | hk | hk
  · exact .inl (.inl hk)
  · exact .inl (.inr (.inl hk))
  · exact .inl (.inr (.inr (.inl hk)))
  · rcases hft k hk with hk | hk
    · exact .inl (.inr (.inr (.inr hk)))
    · exact .inr hk
 have hgo:∀ v v':Value,GoesV w1 v v'→GoesV w v v':=fun v v' hg=>by
  rcases hg with hg | hg
  · exact .inl hg
  · exact .inr fun k hk=>Nat.le_trans hT.size (hg k hk)
 cases o with
 | ok z r3=>
  obtain⟨e1,va',vp',L',vt,fts,hM,hF,hT2,hn,hf,hf2,g1,g2⟩:=k;refine⟨e1,va',vp',L',vt,fts,hM,hF,hT.trans hT2 h.lv hS,hn,fun k hk=>?_,hf2,hgo _ _ g1,hgo _ _ g2⟩;rcases hf k hk with hk | hk
  · exact hft k hk
  · exact .inr (Nat.le_trans hT.size hk)
 | bad q=>
  obtain⟨e1,⟨L',hT2⟩,hrow⟩:=k;exact⟨e1,⟨L',hT.trans hT2 h.lv hS⟩,hrow⟩
theorem turn_push{new:List Fr}{vt:List Value}(h:Mem w b A n c all r va st vp ps sz L)(hb:Below w.heap.size w w1)(hF:FrsAt L w1 b new vt []){e:Ending}
 (hx:e=.returned (.tuple #[])∧∃ va' L',Mem w' b A n c all r va' (vt++st) vp ps sz L'∧Tn (pushS b va) L L' w1 w'∧GoesV w1 va va'):Turn w b A n c all va st vp L ft (.ok (new,ps,sz) r) e w' :=
 turn_next h (Tn.of_below hb) (h.below hb) (GoesV.refl _ _) hF List.nodup_nil (fun k hk=>absurd hk List.not_mem_nil) (fun k hk=>absurd hk List.not_mem_nil) hx
theorem rrRight(side o:Lv)(s:List UInt8)(k:Int)(hs:Ask s)(h:Mem w b A n c all r va st vp ps sz L)(hst:st.length≤1000000):
 Calls Tryz.prog 51 #[rp b,lvV b side,.string (ofL s),.int .i64 k,lvV b o] w (Turn w b A n c all va st vp L [] (.ok ([.m side,.right s k o],ps,sz) r)):=by
 have hmf:∀ (fn:Fn) (first cap:Array Value) (w:World),(Instr.makeFunc fn first cap).run Tryz.prog w=.ok (.func fn first cap) w:=fun _ _ _ _=>rfl;have HM:=Hd h;have HS:=Hd hs;clear h hs;generalize hss:ofL s=ss at *;have HSS:=Hd hss;clear hss
 go_enter Tryz.func51,Tryz.ntmps51
 go_wp2_with fail
 generalize hW:((((w.alloc _).alloc _).alloc _).alloc _).alloc _=W;have HN:=Hd (news (w:=w) (l:=[(#[rp b],57),(#[.string ss],9),(#[.int .i64 k],3),(#[lvV b o],1),(#[lvV b side,fnV 88 #[rp w.heap.size,rp (w.heap.size+1),rp (w.heap.size+1+1+1),rp (w.heap.size+1+1)]],1)]) hW);clear hW;refine(rrNextN [lvV b side,fnV 88 #[rp w.heap.size,rp (w.heap.size+1),rp (w.heap.size+1+1+1),rp (w.heap.size+1+1)]] _ 4 _ (by simp) HM.out hst HN.out rfl (fns_cons (fns_cons fns_nil)) (HM.out.below HN.out.below) (not_in HM.out.lv 4)).mono ?_;rintro e w' ⟨rfl,hx⟩;have HX:=Hd hx;clear hx
 go_wp2_with fail
 go_end0
 refine turn_push HM.out HN.out.below ?_ ⟨rfl,HX.out⟩;have hni:=fun i=>not_in HM.out.lv i;refine⟨[],[],rfl,⟨rfl,rfl⟩,[],[],rfl,⟨rfl,HS.out,_,_,_,_,rfl,Fz.new (HN.out.cell 0 0 _ _ rfl rfl) (hni 0),?_,Fz.new (HN.out.cell 3 0 _ _ rfl rfl) (hni 3),Fz.new (HN.out.cell 2 0 _ _ rfl rfl) (hni 2)⟩,rfl⟩;rw[HSS.out];exact Fz.new (HN.out.cell 1 0 _ _ rfl rfl) (hni 1)
theorem rrLeft(side:Lv)(zs:List (Int × ByteArray))(g c1:Nat)(hz:OpsOK zs)(h:Mem w b A n c all r va st vp ps sz L)(hst:st.length≤1000000)(ho:∀ i,i<zs.length→(bls L w).cell? ⟨g,i,none⟩=some (.int .i64 (zs[i]?.getD default).1)):
 Calls Tryz.prog 117 #[rp b,lvV b side,.slice (some ⟨g,0,none⟩) zs.length c1] w (Turn w b A n c all va st vp L [] (.ok ([.m side,.left (zsL zs) side],ps,sz) r)):=by
 have hmf:∀ (fn:Fn) (first cap:Array Value) (w:World),(Instr.makeFunc fn first cap).run Tryz.prog w=.ok (.func fn first cap) w:=fun _ _ _ _=>rfl;have HM:=Hd h;have HO:=Hd ho;have HZ:=Hd hz;clear h ho hz;generalize hm:zs.length=m at *;have HMM:=Hd hm;clear hm
 go_enter Tryz.func117,Tryz.ntmps117
 go_wp2_with fail
 generalize hW:((((w.alloc _).alloc _).alloc _).alloc _).alloc _=W;have HN:=Hd (news (w:=w) (l:=[(#[rp b],57),(#[lvV b side],1),(#[.slice (some ⟨g,0,none⟩) m c1],118),(#[fnV 133 #[rp w.heap.size,rp (w.heap.size+1+1),rp (w.heap.size+1),rp (w.heap.size+1+1+1)]],1),(#[lvV b side,fnV 133 #[rp w.heap.size,rp (w.heap.size+1+1),rp (w.heap.size+1),rp (w.heap.size+1+1+1)]],1)]) hW);clear hW;refine(rrNextN [lvV b side,fnV 133 #[rp w.heap.size,rp (w.heap.size+1+1),rp (w.heap.size+1),rp (w.heap.size+1+1+1)]] _ 4 _ (by simp) HM.out hst HN.out rfl (fns_cons (fns_cons fns_nil)) (HM.out.below HN.out.below) (not_in HM.out.lv 4)).mono ?_;rintro e w' ⟨rfl,hx⟩;have HX:=Hd hx;clear hx
 go_wp2_with fail
 go_end0
 refine turn_push HM.out HN.out.below ?_ ⟨rfl,HX.out⟩;have hni:=fun i=>not_in HM.out.lv i;refine⟨[],[],rfl,⟨rfl,rfl⟩,[],[],rfl,⟨rfl,zs,rfl,HZ.out,_,_,_,_,g,c1,rfl,Fz.new (HN.out.cell 0 0 _ _ rfl rfl) (hni 0),?_,fun i hi=>?_,Fz.new (HN.out.cell 1 0 _ _ rfl rfl) (hni 1),Fz.new (HN.out.cell 3 0 _ _ rfl rfl) (hni 3)⟩,rfl⟩
 · rw[HMM.out];exact Fz.new (HN.out.cell 2 0 _ _ rfl rfl) (hni 2)
 · exact(Tn.of_below (S:=[]) HN.out.below).up (fun k hk=>absurd hk List.not_mem_nil) _ _ (HO.out i (by rw[← HMM.out];exact hi))
theorem rrOnce(side:Lv)(zs:List (Int × ByteArray))(g c1:Nat)(hz:OpsOK zs)(h:Mem w b A n c all r va st vp ps sz L)(hst:st.length≤1000000)(ho:∀ i,i<zs.length→(bls L w).cell? ⟨g,i,none⟩=some (.int .i64 (zs[i]?.getD default).1)):
 Calls Tryz.prog 153 #[rp b,lvV b side,.slice (some ⟨g,0,none⟩) zs.length c1] w (Turn w b A n c all va st vp L [] (.ok ([.m side,.once (zsL zs) side],ps,sz) r)):=by
 have hmf:∀ (fn:Fn) (first cap:Array Value) (w:World),(Instr.makeFunc fn first cap).run Tryz.prog w=.ok (.func fn first cap) w:=fun _ _ _ _=>rfl;have HM:=Hd h;have HO:=Hd ho;have HZ:=Hd hz;clear h ho hz;generalize hm:zs.length=m at *;have HMM:=Hd hm;clear hm
 go_enter Tryz.func153,Tryz.ntmps153
 go_wp2_with fail
 generalize hW:(((w.alloc _).alloc _).alloc _).alloc _=W;have HN:=Hd (news (w:=w) (l:=[(#[rp b],57),(#[lvV b side],1),(#[.slice (some ⟨g,0,none⟩) m c1],118),(#[lvV b side,fnV 164 #[rp w.heap.size,rp (w.heap.size+1+1),rp (w.heap.size+1)]],1)]) hW);clear hW;refine(rrNextN [lvV b side,fnV 164 #[rp w.heap.size,rp (w.heap.size+1+1),rp (w.heap.size+1)]] _ 3 _ (by simp) HM.out hst HN.out rfl (fns_cons (fns_cons fns_nil)) (HM.out.below HN.out.below) (not_in HM.out.lv 3)).mono ?_;rintro e w' ⟨rfl,hx⟩;have HX:=Hd hx;clear hx
 go_wp2_with fail
 go_end0
 refine turn_push HM.out HN.out.below ?_ ⟨rfl,HX.out⟩;have hni:=fun i=>not_in HM.out.lv i;refine⟨[],[],rfl,⟨rfl,rfl⟩,[],[],rfl,⟨rfl,zs,rfl,HZ.out,_,_,_,g,c1,rfl,Fz.new (HN.out.cell 0 0 _ _ rfl rfl) (hni 0),?_,fun i hi=>?_,Fz.new (HN.out.cell 1 0 _ _ rfl rfl) (hni 1)⟩,rfl⟩
 · rw[HMM.out];exact Fz.new (HN.out.cell 2 0 _ _ rfl rfl) (hni 2)
 · exact(Tn.of_below (S:=[]) HN.out.below).up (fun k hk=>absurd hk List.not_mem_nil) _ _ (HO.out i (by rw[← HMM.out];exact hi))
theorem eat_sep(h:Mem w b A n c all r va st vp ps sz L){eb:Nat}{x:Ex}(k:EAt L w eb x):eb≠b∧va.ownBlock≠some eb∧eb<w.heap.size:=by
 obtain⟨h0,_,Aa,ca,h1,_⟩:=k;refine⟨?_,own_ne h.oa h1 (by decide),h1.lt⟩;rintro rfl;have h2:=h.row;rw[show w.heap[eb]?=_ from h1] at h2;injection h2 with h2;injection h2 with _ h2;exact absurd h2 (by decide)
theorem one_nodup(k:Nat):[k].Nodup:=by simp
theorem rrList(shut:List UInt8)(ev:Bool)(x:Ex)(f eb:Nat)(tf:Fn)(ta tc:Array Value)(hs:Ask shut)(h:Mem w b A n c all r va st vp ps sz L)(hst:st.length≤1000000)(he:EAt L w eb x)(hv:vp.ownBlock≠some eb)(ht:ThenAt L w ev b eb f (.func tf ta tc)):
 Calls Tryz.prog 186 #[rp b,.string (ofL shut),.func tf ta tc] w (Turn w b A n c all va st vp L [eb] (.ok ([.m .arrow,.list shut ev x f],ps,sz) r)):=by
 have hmf:∀ (fn:Fn) (first cap:Array Value) (w:World),(Instr.makeFunc fn first cap).run Tryz.prog w=.ok (.func fn first cap) w:=fun _ _ _ _=>rfl;have HM:=Hd h;have HE:=Hd he;have HT:=Hd ht;have HS:=Hd hs;have HV:=Hd hv;clear h he ht hs hv;generalize hss:ofL shut=ss at *;have HSS:=Hd hss;clear hss
 go_enter Tryz.func186,Tryz.ntmps186
 go_wp2_with fail
 generalize hW:((((w.alloc _).alloc _).alloc _).alloc _).alloc _=W;have HN:=Hd (news (w:=w) (l:=[(#[rp b],57),(#[.string ss],9),(#[.func tf ta tc],1),(#[fnV 198 #[rp w.heap.size,rp (w.heap.size+1+1+1),rp (w.heap.size+1),rp (w.heap.size+1+1)]],1),(#[lvV b .arrow,fnV 198 #[rp w.heap.size,rp (w.heap.size+1+1+1),rp (w.heap.size+1),rp (w.heap.size+1+1)]],1)]) hW);clear hW;refine(rrNextN [lvV b .arrow,fnV 198 #[rp w.heap.size,rp (w.heap.size+1+1+1),rp (w.heap.size+1),rp (w.heap.size+1+1)]] _ 4 _ (by simp) HM.out hst HN.out rfl (fns_cons (fns_cons fns_nil)) (HM.out.below HN.out.below) (not_in HM.out.lv 4)).mono ?_;rintro e w' ⟨rfl,hx⟩;have HX:=Hd hx;clear hx
 go_wp2_with fail
 go_end0
 obtain⟨hs1,hs2,hs3⟩:=eat_sep HM.out HE.out;have hni:=fun i=>not_in HM.out.lv i;have hTn:Tn [] L L w W:=Tn.of_below HN.out.below;have hS0:∀ k∈([]:List Nat),k∈L:=fun k hk=>absurd hk List.not_mem_nil;refine turn_next (fts:=[eb]) HM.out (Tn.of_below HN.out.below) (HM.out.below HN.out.below) (GoesV.refl _ _) ?_ (one_nodup _) (fun k hk=>.inl hk) (fun k hk=>?_) ⟨rfl,HX.out⟩
 · refine⟨[],[eb],rfl,⟨rfl,rfl⟩,[eb],[],rfl,⟨eb,rfl,HE.out.up hTn hS0 List.not_mem_nil,HS.out,_,_,_,_,_,rfl,Fz.new (HN.out.cell 0 0 _ _ rfl rfl) (hni 0),Fz.new (HN.out.cell 3 0 _ _ rfl rfl) (hni 3),?_,Fz.new (HN.out.cell 2 0 _ _ rfl rfl) (hni 2),HT.out.up hTn hS0⟩,rfl⟩;rw[HSS.out];exact Fz.new (HN.out.cell 1 0 _ _ rfl rfl) (hni 1)
 · rw[List.mem_singleton.1 hk];exact⟨hs1,hs2,HV.out,Nat.lt_of_lt_of_le hs3 HN.out.below.size⟩
theorem lv_arrow(h:Mem w b A n c all r va st vp ps sz L)(hst:st.length≤1000000):Calls Tryz.prog 25 #[rp b] w (Turn w b A n c all va st vp L [] (lvO .arrow ps sz r)):=by
 have hmf:∀ (fn:Fn) (first cap:Array Value) (w:World),(Instr.makeFunc fn first cap).run Tryz.prog w=.ok (.func fn first cap) w:=fun _ _ _ _=>rfl;have HR:=Hd (rrRight .fby .arrow arrL 9 (.inr (by decide)) h hst);clear h
 go_enter Tryz.func25,Tryz.ntmps25
 go_wp2_with fail
 refine HR.out.mono ?_;rintro e w' ⟨rfl,hx⟩;have HX:=Hd hx;clear hx
 go_wp2_with fail
 go_end0
 exact⟨rfl,HX.out⟩
theorem lv_fby(h:Mem w b A n c all r va st vp ps sz L)(hst:st.length≤1000000):Calls Tryz.prog 52 #[rp b] w (Turn w b A n c all va st vp L [] (lvO .fby ps sz r)):=by
 have hmf:∀ (fn:Fn) (first cap:Array Value) (w:World),(Instr.makeFunc fn first cap).run Tryz.prog w=.ok (.func fn first cap) w:=fun _ _ _ _=>rfl;have HR:=Hd (rrRight .or .fby fbyL 8 (.inl (by decide)) h hst);clear h
 go_enter Tryz.func52,Tryz.ntmps52
 go_wp2_with fail
 refine HR.out.mono ?_;rintro e w' ⟨rfl,hx⟩;have HX:=Hd hx;clear hx
 go_wp2_with fail
 go_end0
 exact⟨rfl,HX.out⟩
def zUn:List (Int × ByteArray):=[(1,⟨#[45]⟩),(2,⟨#[110,111,116]⟩)]
theorem ok_Un:OpsOK zUn:=by
 refine⟨by decide,fun z hz=>?_⟩;simp only[zUn,List.mem_cons,List.not_mem_nil,or_false] at hz;rcases hz with rfl | rfl
 · exact⟨by decide,.inr (by decide),by decide⟩
 · exact⟨by decide,.inl (by decide),by decide⟩
def zOr:List (Int × ByteArray):=[(9,⟨#[111,114]⟩),(10,⟨#[120,111,114]⟩)]
theorem ok_Or:OpsOK zOr:=by
 refine⟨by decide,fun z hz=>?_⟩;simp only[zOr,List.mem_cons,List.not_mem_nil,or_false] at hz;rcases hz with rfl | rfl
 · exact⟨by decide,.inl (by decide),by decide⟩
 · exact⟨by decide,.inl (by decide),by decide⟩
theorem lv_or(h:Mem w b A n c all r va st vp ps sz L)(hst:st.length≤1000000):Calls Tryz.prog 90 #[rp b] w (Turn w b A n c all va st vp L [] (lvO .or ps sz r)):=by
 have hmf:∀ (fn:Fn) (first cap:Array Value) (w:World),(Instr.makeFunc fn first cap).run Tryz.prog w=.ok (.func fn first cap) w:=fun _ _ _ _=>rfl;have HM:=Hd h;clear h
 go_enter Tryz.func90,Tryz.ntmps90
 go_wp2_with fail
 generalize hW:w.alloc _=W;have HN:=Hd (news (w:=w) (l:=[(#[.int .i64 9,.int .i64 10],3)]) hW);clear hW;refine(rrLeft .and zOr w.heap.size 2 ok_Or (HM.out.below HN.out.below) hst (fun i hi=>?_)).mono ?_
 · refine(bls_cell (not_in HM.out.lv 0)).trans ?_
   match i,hi with
   | 0,_=>exact HN.out.cell 0 0 _ _ rfl rfl
   | 1,_=>exact HN.out.cell 0 1 _ _ rfl rfl
 rintro e w' ⟨rfl,hx⟩;have HX:=Hd hx;clear hx
 go_wp2_with fail
 go_end0
 exact turn_into (o:=.ok _ _) HM.out (Tn.of_below HN.out.below) (fun k hk=>absurd hk List.not_mem_nil) ⟨rfl,HX.out⟩
def zAnd:List (Int × ByteArray):=[(8,⟨#[97,110,100]⟩)]
theorem ok_And:OpsOK zAnd:=by
 refine⟨by decide,fun z hz=>?_⟩;simp only[zAnd,List.mem_cons,List.not_mem_nil,or_false] at hz;subst hz
 · exact⟨by decide,.inl (by decide),by decide⟩
theorem lv_and(h:Mem w b A n c all r va st vp ps sz L)(hst:st.length≤1000000):Calls Tryz.prog 118 #[rp b] w (Turn w b A n c all va st vp L [] (lvO .and ps sz r)):=by
 have hmf:∀ (fn:Fn) (first cap:Array Value) (w:World),(Instr.makeFunc fn first cap).run Tryz.prog w=.ok (.func fn first cap) w:=fun _ _ _ _=>rfl;have HM:=Hd h;clear h
 go_enter Tryz.func118,Tryz.ntmps118
 go_wp2_with fail
 generalize hW:w.alloc _=W;have HN:=Hd (news (w:=w) (l:=[(#[.int .i64 8],3)]) hW);clear hW;refine(rrLeft .cmp zAnd w.heap.size 1 ok_And (HM.out.below HN.out.below) hst (fun i hi=>?_)).mono ?_
 · refine(bls_cell (not_in HM.out.lv 0)).trans ?_
   match i,hi with
   | 0,_=>exact HN.out.cell 0 0 _ _ rfl rfl
 rintro e w' ⟨rfl,hx⟩;have HX:=Hd hx;clear hx
 go_wp2_with fail
 go_end0
 exact turn_into (o:=.ok _ _) HM.out (Tn.of_below HN.out.below) (fun k hk=>absurd hk List.not_mem_nil) ⟨rfl,HX.out⟩
def zSum:List (Int × ByteArray):=[(3,⟨#[43]⟩),(4,⟨#[45]⟩)]
theorem ok_Sum:OpsOK zSum:=by
 refine⟨by decide,fun z hz=>?_⟩;simp only[zSum,List.mem_cons,List.not_mem_nil,or_false] at hz;rcases hz with rfl | rfl
 · exact⟨by decide,.inr (by decide),by decide⟩
 · exact⟨by decide,.inr (by decide),by decide⟩
theorem lv_sum(h:Mem w b A n c all r va st vp ps sz L)(hst:st.length≤1000000):Calls Tryz.prog 154 #[rp b] w (Turn w b A n c all va st vp L [] (lvO .sum ps sz r)):=by
 have hmf:∀ (fn:Fn) (first cap:Array Value) (w:World),(Instr.makeFunc fn first cap).run Tryz.prog w=.ok (.func fn first cap) w:=fun _ _ _ _=>rfl;have HM:=Hd h;clear h
 go_enter Tryz.func154,Tryz.ntmps154
 go_wp2_with fail
 generalize hW:w.alloc _=W;have HN:=Hd (news (w:=w) (l:=[(#[.int .i64 3,.int .i64 4],3)]) hW);clear hW;refine(rrLeft .prod zSum w.heap.size 2 ok_Sum (HM.out.below HN.out.below) hst (fun i hi=>?_)).mono ?_
 · refine(bls_cell (not_in HM.out.lv 0)).trans ?_
   match i,hi with
   | 0,_=>exact HN.out.cell 0 0 _ _ rfl rfl
   | 1,_=>exact HN.out.cell 0 1 _ _ rfl rfl
 rintro e w' ⟨rfl,hx⟩;have HX:=Hd hx;clear hx
 go_wp2_with fail
 go_end0
 exact turn_into (o:=.ok _ _) HM.out (Tn.of_below HN.out.below) (fun k hk=>absurd hk List.not_mem_nil) ⟨rfl,HX.out⟩
def zProd:List (Int × ByteArray):=[(5,⟨#[42]⟩),(6,⟨#[47]⟩),(7,⟨#[109,111,100]⟩)]
theorem ok_Prod:OpsOK zProd:=by
 refine⟨by decide,fun z hz=>?_⟩;simp only[zProd,List.mem_cons,List.not_mem_nil,or_false] at hz;rcases hz with rfl | rfl | rfl
 · exact⟨by decide,.inr (by decide),by decide⟩
 · exact⟨by decide,.inr (by decide),by decide⟩
 · exact⟨by decide,.inl (by decide),by decide⟩
theorem lv_prod(h:Mem w b A n c all r va st vp ps sz L)(hst:st.length≤1000000):Calls Tryz.prog 165 #[rp b] w (Turn w b A n c all va st vp L [] (lvO .prod ps sz r)):=by
 have hmf:∀ (fn:Fn) (first cap:Array Value) (w:World),(Instr.makeFunc fn first cap).run Tryz.prog w=.ok (.func fn first cap) w:=fun _ _ _ _=>rfl;have HM:=Hd h;clear h
 go_enter Tryz.func165,Tryz.ntmps165
 go_wp2_with fail
 generalize hW:w.alloc _=W;have HN:=Hd (news (w:=w) (l:=[(#[.int .i64 5,.int .i64 6,.int .i64 7],3)]) hW);clear hW;refine(rrLeft .un zProd w.heap.size 3 ok_Prod (HM.out.below HN.out.below) hst (fun i hi=>?_)).mono ?_
 · refine(bls_cell (not_in HM.out.lv 0)).trans ?_
   match i,hi with
   | 0,_=>exact HN.out.cell 0 0 _ _ rfl rfl
   | 1,_=>exact HN.out.cell 0 1 _ _ rfl rfl
   | 2,_=>exact HN.out.cell 0 2 _ _ rfl rfl
 rintro e w' ⟨rfl,hx⟩;have HX:=Hd hx;clear hx
 go_wp2_with fail
 go_end0
 exact turn_into (o:=.ok _ _) HM.out (Tn.of_below HN.out.below) (fun k hk=>absurd hk List.not_mem_nil) ⟨rfl,HX.out⟩
def zCmp:List (Int × ByteArray):=[(11,⟨#[61]⟩),(12,⟨#[60,62]⟩),(13,⟨#[60]⟩),(14,⟨#[60,61]⟩),(15,⟨#[62]⟩),(16,⟨#[62,61]⟩)]
theorem ok_Cmp:OpsOK zCmp:=by
 refine⟨by decide,fun z hz=>?_⟩;simp only[zCmp,List.mem_cons,List.not_mem_nil,or_false] at hz;rcases hz with rfl | rfl | rfl | rfl | rfl | rfl
 · exact⟨by decide,.inr (by decide),by decide⟩
 · exact⟨by decide,.inr (by decide),by decide⟩
 · exact⟨by decide,.inr (by decide),by decide⟩
 · exact⟨by decide,.inr (by decide),by decide⟩
 · exact⟨by decide,.inr (by decide),by decide⟩
 · exact⟨by decide,.inr (by decide),by decide⟩
theorem lv_cmp(h:Mem w b A n c all r va st vp ps sz L)(hst:st.length≤1000000):Calls Tryz.prog 136 #[rp b] w (Turn w b A n c all va st vp L [] (lvO .cmp ps sz r)):=by
 have hmf:∀ (fn:Fn) (first cap:Array Value) (w:World),(Instr.makeFunc fn first cap).run Tryz.prog w=.ok (.func fn first cap) w:=fun _ _ _ _=>rfl;have HM:=Hd h;clear h
 go_enter Tryz.func136,Tryz.ntmps136
 go_wp2_with fail
 generalize hW:w.alloc _=W;have HN:=Hd (news (w:=w) (l:=[(#[.int .i64 11,.int .i64 12,.int .i64 13,.int .i64 14,.int .i64 15,.int .i64 16],3)]) hW);clear hW;refine(rrOnce .sum zCmp w.heap.size 6 ok_Cmp (HM.out.below HN.out.below) hst (fun i hi=>?_)).mono ?_
 · refine(bls_cell (not_in HM.out.lv 0)).trans ?_
   match i,hi with
   | 0,_=>exact HN.out.cell 0 0 _ _ rfl rfl
   | 1,_=>exact HN.out.cell 0 1 _ _ rfl rfl
   | 2,_=>exact HN.out.cell 0 2 _ _ rfl rfl
   | 3,_=>exact HN.out.cell 0 3 _ _ rfl rfl
   | 4,_=>exact HN.out.cell 0 4 _ _ rfl rfl
   | 5,_=>exact HN.out.cell 0 5 _ _ rfl rfl
 rintro e w' ⟨rfl,hx⟩;have HX:=Hd hx;clear hx
 go_wp2_with fail
 go_end0
 exact turn_into (o:=.ok _ _) HM.out (Tn.of_below HN.out.below) (fun k hk=>absurd hk List.not_mem_nil) ⟨rfl,HX.out⟩
end
end
section
open Go.RowKit Go.Sort
section
variable {w w1 w2 w':World}{b:Nat}{A:Option Addr}{n c:Nat}{all r r' r2:List Tk}{va va1 vp:Value}{st:List Value}{ps:List Ex}{sz:Nat}{L L1 L2 S ft:List Nat}
theorem trn_sign(s:List UInt8)(p0 p1:Nat)(hs:Ask s)(h:Mem w b A n c all r va st vp ps sz L)(h0:Fz L w p0 (rp b))(h1:Fz L w p1 (.string (ofL s))):
 Calls Tryz.prog 199 #[rp p0,rp p1] w (Turn w b A n c all va st vp L [] (stepF (.sign s) ps sz r)):=by
 have HM:=Hd h;have HT:=Hd (show Calls Tryz.prog 59 #[rp b,.string (ofL s)] w (QPost w b A n c all va vp sz (needP s r) fun _ e=>e=.returned (.tuple #[])) from rrTake (ofL s) hs h.q);have c0:=h0.get;have c1:=h1.get;clear h h0 h1
 show Calls _ _ _ _ (Turn w b A n c all va st vp L [] ((needP s r).bind fun _ r=>.ok ([],ps,sz) r))
 generalize ofL s=ss at *
 cases hn:needP s r with
 | ok u r2=>
  have HK:=Hd (QPost.ok_ HT.out hn);clear HT hn
  go_enter Tryz.func199,Tryz.ntmps199
  go_wp2_with fail
  refine HK.out.mono ?_;rintro e w1 ⟨rfl,hq,hb⟩;have HQ:=Hd hq;have HB:=Hd hb;clear hq hb
  go_wp2_with fail
  go_end0
  exact turn_none HM.out HQ.out HB.out
 | bad r2=>
  have HK:=Hd (QPost.bad_ HT.out hn);clear HT hn
  go_enter Tryz.func199,Tryz.ntmps199
  go_wp2_with fail
  refine HK.out.mono ?_;rintro e w1 ⟨rfl,hq,hb⟩;have HQ:=Hd hq;have HB:=Hd hb;clear hq hb
  go_wp2_with fail
  exact⟨rfl,turn_bad HM.out HQ.out HB.out⟩
theorem lv_post(h:Mem w b A n c all r va st vp ps sz L)(hst:st.length≤1000000):Calls Tryz.prog 171 #[rp b] w (Turn w b A n c all va st vp L [] (lvO .post ps sz r)):=by
 have hmf:∀ (fn:Fn) (first cap:Array Value) (w:World),(Instr.makeFunc fn first cap).run Tryz.prog w=.ok (.func fn first cap) w:=fun _ _ _ _=>rfl;have HM:=Hd h;clear h
 go_enter Tryz.func171,Tryz.ntmps171
 go_wp2_with fail
 generalize hW:w.alloc _=W;have HN:=Hd (news (w:=w) (l:=[(#[lvV b .atom,lvV b .behind],1)]) hW);clear hW;refine(rrNextN [lvV b .atom,lvV b .behind] _ 0 _ (by simp) HM.out hst HN.out rfl (fns_cons (fns_cons fns_nil)) (HM.out.below HN.out.below) (not_in HM.out.lv 0)).mono ?_;rintro e w' ⟨rfl,hx⟩;have HX:=Hd hx;clear hx
 go_wp2_with fail
 go_end0
 exact turn_push (new:=[.m .atom,.m .behind]) (vt:=[lvV b .atom,lvV b .behind]) HM.out HN.out.below ⟨[],[],rfl,⟨rfl,rfl⟩,[],[],rfl,⟨rfl,rfl⟩,rfl⟩ ⟨rfl,HX.out⟩
theorem made_new{eb p0 p1 p2 f:Nat}{w3:World}{x:Ex}(h:Mem w b A n c all r va st vp ps sz L)(hx:x.subs=[])(hxa:x.arms=[])(hb1:Below w.heap.size w w1)(heb:w.heap.size≤eb)(hrow:w1.heap[eb]?=some (.cells (exA x none 0 none 0) 26))
 (hb2:Below w1.heap.size w1 w2) (hp:w1.heap.size≤p0∧w1.heap.size≤p1∧w1.heap.size≤p2) (h0:w2.cell? ⟨p0,0,none⟩=some (rp b)) (h1:w2.cell? ⟨p1,0,none⟩=some (rp eb)) (h2:w2.cell? ⟨p2,0,none⟩=some (.int .i64 (f:Int))) (hb3:Below w2.heap.size w2 w3):
 Mem w3 b A n c all r va st vp ps sz (eb::L)∧Tn [] L (eb::L) w w3∧EAt (eb::L) w3 eb x∧MadeAt (eb::L) w3 b eb f (fnV 116 #[rp p0,rp p1,rp p2])∧eb<w3.heap.size∧Below w.heap.size w w3:=by
 have hb:Below w.heap.size w w3:=(hb1.trans (hb2.mono hb1.size)).trans (hb3.mono (Nat.le_trans hb1.size hb2.size));have hlt:eb<w1.heap.size:=(Array.getElem?_eq_some_iff.1 hrow).1;have hlt3:eb<w3.heap.size:=Nat.lt_of_lt_of_le hlt (Nat.le_trans hb2.size hb3.size);have hM:=h.use hb heb hlt3
 have hni:∀ p,w1.heap.size≤p→p∉eb::L:=fun p hp hk=>by
  rcases List.mem_cons.1 hk with hk | hk
  · omega
  · have:=h.lv p hk;have:=hb1.size;omega
 have hfz:∀ p v,w1.heap.size≤p→w2.cell? ⟨p,0,none⟩=some v→Fz (eb::L) w3 p v:=fun p v hp hv=>Fz.new ((hb3.cell (World.block_lt_of_cell? _ _ hv)).trans hv) (hni p hp);refine⟨hM,(Tn.of_below hb).use heb,⟨List.mem_cons_self,hx,none,0,?_,?_⟩,⟨p0,p1,p2,rfl,hfz _ _ hp.1 h0,hfz _ _ hp.2.1 h1,hfz _ _ hp.2.2 h2⟩,hlt3,hb⟩
 · unfold RowX;rw[hb3.block eb (Nat.lt_of_lt_of_le hlt hb2.size),hb2.block eb hlt];exact hrow
 · rw[hxa];exact RdT.nil_ _
theorem turn_made{eb:Nat}{new:List Fr}{vt:List Value}{x:Ex}(h:Mem w b A n c all r va st vp ps sz L)(hM:Mem w1 b A n c all r2 va st vp ps sz L)(hT:Tn [b] L L w w1)(h3:Mem w2 b A n c all r2 va st vp ps sz (eb::L))(hT3:Tn [] L (eb::L) w1 w2)(hE:EAt (eb::L) w2 eb x)(heb:w.heap.size≤eb)
 (hF:FrsAt (eb::L) w2 b new vt [eb]){e:Ending}(hx:e=.returned (.tuple #[])∧∃ va' L',Mem w' b A n c all r2 va' (vt++st) vp ps sz L'∧Tn (pushS b va) (eb::L) L' w2 w'∧GoesV w2 va va'):Turn w b A n c all va st vp L ft (.ok (new,ps,sz) r2) e w':=by
 obtain⟨hs1,hs2,hs3⟩:=eat_sep h3 hE;refine turn_next (fts:=[eb]) h ((hT.mono turnS_b).trans hT3 h.lv (fun k hk=>absurd hk List.not_mem_nil)) h3 (GoesV.refl _ _) hF (one_nodup _) (fun k hk=>.inr ?_) (fun k hk=>?_) hx
 · rw[List.mem_singleton.1 hk];exact heb
 · rw[List.mem_singleton.1 hk];refine⟨hs1,hs2,fun hv=>?_,hs3⟩;have:=h.lv eb (h.lp eb hv);omega
theorem rrNextA(l:List Value)(T:TypeId)(hl:l.length≤100)(h:Mem w b A n c all r va st vp ps sz L)(hst:st.length≤1000000)(h1:Fns l):
 Calls Tryz.prog 50 #[rp b,.slice (some ⟨w.heap.size,0,none⟩) l.length l.length] (w.alloc (.cells l.toArray T)) fun e w'=>e=.returned (.tuple #[]) ∧
  ∃ va' L',Mem w' b A n c all r va' (l++st) vp ps sz L'∧Tn (pushS b va) L L' (w.alloc (.cells l.toArray T)) w'∧GoesV (w.alloc (.cells l.toArray T)) va va' :=
 rrNextN l [(l.toArray,T)] 0 T hl h hst (news rfl) rfl h1 (h.alloc _) (not_in h.lv 0)
def Fzs(L:List Nat)(w:World)(l:List (Nat × Value)):Prop:=∀ x∈l,Fz L w x.1 x.2
theorem fzs_nil(L:List Nat)(w:World):Fzs L w []:=fun x h=>absurd h List.not_mem_nil
theorem fzs_cons{p:Nat}{v:Value}{l:List (Nat × Value)}(h:Fz L w p v)(k:Fzs L w l):Fzs L w ((p,v)::l):=fun x hx=>by
 rcases List.mem_cons.1 hx with rfl | hx
 · exact h
 · exact k x hx
theorem Fzs.up{l:List (Nat × Value)}(k:Fzs L w l)(h:Tn S L L1 w w1)(hS:∀ k∈S,k∈L):Fzs L1 w1 l:=fun x hx=>(k x hx).up h hS
theorem Fzs.at_{l:List (Nat × Value)}(k:Fzs L w l)(i:Nat)(p:Nat)(v:Value)(h:l[i]?=some (p,v)):w.cell? ⟨p,0,none⟩=some v:=(k (p,v) (List.mem_of_getElem? h)).get
theorem nil_sub:∀ k∈([]:List Nat),k∈L:=fun k hk=>absurd hk List.not_mem_nil
theorem tn_alloc(o:Obj):Tn [] L L w (w.alloc o):=Tn.of_below ((Below.refl _ _).alloc (Nat.le_refl _) o)
theorem trn_right(s:List UInt8)(k:Int)(o:Lv)(p0 p1 p2 p3:Nat)(hs:Ask s)(h:Mem w b A n c all r va st vp ps sz L)(hst:st.length≤1000000)(hps:1≤ps.length∧ps.length≤1000000)(h0:Fz L w p0 (rp b))(h1:Fz L w p1 (.string (ofL s)))(h2:Fz L w p2 (lvV b o))(h3:Fz L w p3 (.int .i64 k)):
 Calls Tryz.prog 88 #[rp p0,rp p1,rp p2,rp p3] w (Turn w b A n c all va st vp L [] (stepF (.right s k o) ps sz r)):=by
 have HM:=Hd h;have c0:=h0.get;have c1:=h1.get;have HZ:=Hd (fzs_cons h0 (fzs_cons h2 (fzs_cons h3 (fzs_nil L w))));have hbs:=b_sub h
 show Calls _ _ _ _ (Turn w b A n c all va st vp L [] (if isP s r=true then .ok ([.m o,.made (mk0 k) (ps.length-1)],ps,sz) r.tail else .ok ([],ps,sz) r))
 cases hi:isP s r with
 | false=>
  have HT:=Hd (rrTook_no (ofL s) hs h.q hi);clear h h0 h1 h2 h3 hi hbs HZ;generalize ofL s=ss at *
  go_enter Tryz.func88,Tryz.ntmps88
  go_wp2_with fail
  refine HT.out.mono ?_;rintro e w1 ⟨rfl,hq,hb⟩;have HQ:=Hd hq;have HB:=Hd hb;clear hq hb
  go_wp2_with fail
  go_end0
  exact turn_none HM.out HQ.out HB.out
 | true=>
  have HT:=Hd (rrTook_yes (ofL s) hs h.q hi);have HP:=Hd hps;clear h h0 h1 h2 h3 hi hps;rw[if_pos rfl];generalize ofL s=ss at *
  go_enter Tryz.func88,Tryz.ntmps88
  go_wp2_with fail
  refine HT.out.mono ?_;rintro e w1 ⟨rfl,hq,hb⟩;obtain⟨hM1,hT1⟩:=HM.out.move hq hb;have HM1:=Hd hM1;have HT1:=Hd hT1;have HZ1:=Hd (HZ.out.up hT1 hbs);have d0:=HZ1.out.at_ 0 p0 _ rfl;have d1:=HZ1.out.at_ 1 p2 _ rfl;have d2:=HZ1.out.at_ 2 p3 _ rfl;have l0:=World.block_lt_of_cell? _ _ d0;have l1:=World.block_lt_of_cell? _ _ d1;have l2:=World.block_lt_of_cell? _ _ d2;clear hq hb hM1 hT1 c0 c1 HZ
  go_upto_region 1 with(fail)
  go_region_held3 (fun W=>W.cell? ⟨p0,0,none⟩=some (rp b)∧W.cell? ⟨p2,0,none⟩=some (lvV b o)∧W.cell? ⟨p3,0,none⟩=some (.int .i64 k)) (first | exact⟨d0,d1,d2⟩ | exact⟨(World.cell?_alloc_lt _ _ _ l0).trans d0,(World.cell?_alloc_lt _ _ _ l1).trans d1,(World.cell?_alloc_lt _ _ _ l2).trans d2⟩ | exact⟨e0,e1,e2⟩ | exact⟨(World.cell?_alloc_lt _ _ _ m0).trans e0,(World.cell?_alloc_lt _ _ _ m1).trans e1,(World.cell?_alloc_lt _ _ _ m2).trans e2⟩ | exact⟨f0,f1,f2⟩)
   ((first
     | (go_at_call 89;refine(rrMade (b:=b) (L:=L) 1 w1.heap.size (show Mem _ b A n c all r.tail va st vp ps sz L by first | exact HM1.out.alloc _ | exact(HM1.out.alloc _).drew | exact(HM1.out.drew).alloc _) HP.out.1 HP.out.2).mono ?_;rintro e Wa ⟨a0,a1,a2,rfl,hba,hpa,hc0,hc1,hc2⟩;have HKa:=Hd (made_new (x:=mk0 k) HM1.out rfl rfl (by exact((Below.refl _ _).alloc (Nat.le_refl _) _).drew) (Nat.le_refl _) (by exact heap_alloc_new _ _) hba hpa hc0 hc1 hc2 (Below.refl _ _));have HZa:=Hd (HZ1.out.up HKa.out.2.1 nil_sub);have e0:=HZa.out.at_ 0 p0 _ rfl;have e1:=HZa.out.at_ 1 p2 _ rfl;have e2:=HZa.out.at_ 2 p3 _ rfl;have m0:=World.block_lt_of_cell? _ _ e0;have m1:=World.block_lt_of_cell? _ _ e1;have m2:=World.block_lt_of_cell? _ _ e2;clear hba hpa hc0 hc1 hc2)
     | (go_at_call 50;refine(rrNextA [lvV b o,fnV 116 #[rp a0,rp a1,rp a2]] 1 (by simp) HKa.out.1 hst (fns_cons (fns_cons fns_nil))).mono ?_;rintro e Wb ⟨rfl,hx⟩;have HX:=Hd hx;obtain⟨va2,L3,hM3,hT3,hg3⟩:=hx;have HZb:=Hd ((HZa.out.up (tn_alloc _) nil_sub).up hT3 (push_sub HKa.out.1));have f0:=HZb.out.at_ 0 p0 _ rfl;have f1:=HZb.out.at_ 1 p2 _ rfl;have f2:=HZb.out.at_ 2 p3 _ rfl;clear hM3 hT3 hg3)))
  go_wp2_with fail
  go_end0
  have hal:=(tn_alloc (L:=w1.heap.size::L) (w:=Wa) (.cells #[lvV b o,fnV 116 #[rp a0,rp a1,rp a2]] 1));have hE:=HKa.out.2.2.1.up hal nil_sub List.not_mem_nil;exact turn_made (eb:=w1.heap.size) (x:=mk0 k) (new:=[.m o,.made (mk0 k) (ps.length-1)]) (vt:=[lvV b o,fnV 116 #[rp a0,rp a1,rp a2]]) HM.out HM1.out HT1.out (HKa.out.1.alloc _) (HKa.out.2.1.trans hal HM1.out.lv (fun k hk=>.inl hk)) hE HT1.out.size ⟨[],[w1.heap.size],rfl,⟨rfl,rfl⟩,[w1.heap.size],[],rfl,⟨w1.heap.size,rfl,hE,HKa.out.2.2.2.1.up hal nil_sub⟩,rfl⟩ ⟨rfl,HX.out⟩
end
end
section
open Go.RowKit Go.Sort
theorem below_undrew{w w':World}{m:Nat}(h:Below (w.drewN m).heap.size (w.drewN m) w'):Below w.heap.size w w':=⟨h.os,h.tape,h.output,h.size,h.block⟩
section
variable {w w1 w2 w':World}{b:Nat}{A:Option Addr}{n c:Nat}{all r r' r2:List Tk}{va va1 vp:Value}{st:List Value}{ps:List Ex}{sz:Nat}{L L1 L2 S ft:List Nat}
theorem rrBinaryG(op:Int)(w:World):
 Calls Tryz.prog 135 #[.int .i64 op] w fun e w'=>∃ g,e=.returned (rp g)∧w.heap.size≤g∧Below w.heap.size w w'∧w'.heap[g]?=some (.cells (exA (mkOp 6 op) none 0 none 0) 26):=
 (rrBinary op w).mono fun e w' h=>⟨w.heap.size,h.1,Nat.le_refl _,by rw[h.2];exact(Below.refl _ _).alloc (Nat.le_refl _) _,by rw[h.2];exact heap_alloc_new _ _⟩
theorem trn_left(zs:List (Int × ByteArray))(side:Lv)(p0 p1 p2 p3 g c1:Nat)(hz:OpsOK zs)(h:Mem w b A n c all r va st vp ps sz L)(hst:st.length≤1000000)(hps:1≤ps.length∧ps.length≤1000000)(h0:Fz L w p0 (rp b))(h1:Fz L w p1 (.slice (some ⟨g,0,none⟩) zs.length c1))(ho:∀ i,i<zs.length→(bls L w).cell? ⟨g,i,none⟩=some (.int .i64 (zs[i]?.getD default).1))(h2:Fz L w p2 (lvV b side))(h3:Fz L w p3 (fnV 133 #[rp p0,rp p1,rp p2,rp p3])):
 Calls Tryz.prog 133 #[rp p0,rp p1,rp p2,rp p3] w (Turn w b A n c all va st vp L [] (stepF (.left (zsL zs) side) ps sz r)):=by
 have HM:=Hd h;have c0:=h0.get;have c1':=h1.get;have HZ:=Hd (fzs_cons h0 (fzs_cons h2 (fzs_cons h3 (fzs_nil L w))));have hbs:=b_sub h
 show Calls _ _ _ _ (Turn w b A n c all va st vp L [] (if signP (zsL zs) r≠0 then .ok ([.m side,.made (mkOp 6 (signP (zsL zs) r)) (ps.length-1),.left (zsL zs) side],ps,sz) r.tail else .ok ([],ps,sz) r))
 have HOP:=Hd (show FrAt L w b (.left (zsL zs) side) (fnV 133 #[rp p0,rp p1,rp p2,rp p3]) [] from⟨rfl,zs,rfl,hz,p0,p1,p2,p3,g,c1,rfl,h0,h1,ho,h2,h3⟩);have HT:=Hd (rrOp zs g c1 h.q hz fun i hi=>bl_up h.lb _ _ (ho i hi));have HP:=Hd hps;generalize hsg:signP (zsL zs) r=op at *;have HR:=Hd (show opR (zsL zs) r=if op=0 then r else r.tail from by rw[← hsg];rfl);clear h h0 h1 h2 h3 ho hz hps hsg;generalize hm:zs.length=m at *;clear hm
 cases h0':(op != 0) with
 | false=>
  have hop:op=0:=by simpa using h0'
  rw[HR.out,if_pos hop] at HT;rw[if_neg (by simpa using hop)];clear HZ hbs HR hop
  go_enter Tryz.func133,Tryz.ntmps133
  go_wp2_with fail
  refine HT.out.mono ?_;rintro e w1 ⟨rfl,hq,hb⟩;have HQ:=Hd hq;have HB:=Hd hb;clear hq hb
  go_wp2_with fail
  go_end0
  exact turn_none HM.out HQ.out HB.out
 | true=>
  have hop:¬ op=0:=by simpa using h0'
  rw[HR.out,if_neg hop] at HT;rw[if_pos hop];clear HR hop
  go_enter Tryz.func133,Tryz.ntmps133
  go_wp2_with fail
  refine HT.out.mono ?_;rintro e w1 ⟨rfl,hq,hb⟩;obtain⟨hM1,hT1⟩:=HM.out.move hq hb;have HM1:=Hd hM1;have HT1:=Hd hT1;have HZ1:=Hd (HZ.out.up hT1 hbs);have d0:=HZ1.out.at_ 0 p0 _ rfl;have d1:=HZ1.out.at_ 1 p2 _ rfl;have d2:=HZ1.out.at_ 2 p3 _ rfl;have l0:=World.block_lt_of_cell? _ _ d0;have l1:=World.block_lt_of_cell? _ _ d1;have l2:=World.block_lt_of_cell? _ _ d2;clear hq hb hM1 hT1 c0 c1' HZ
  go_upto_region 2 with(fail)
  go_region_held3 (fun W=>W.cell? ⟨p0,0,none⟩=some (rp b)∧W.cell? ⟨p2,0,none⟩=some (lvV b side)∧W.cell? ⟨p3,0,none⟩=some (fnV 133 #[rp p0,rp p1,rp p2,rp p3])) (first | exact⟨d0,d1,d2⟩ | exact⟨(World.cell?_alloc_lt _ _ _ l0).trans d0,(World.cell?_alloc_lt _ _ _ l1).trans d1,(World.cell?_alloc_lt _ _ _ l2).trans d2⟩ | exact⟨z0,z1,z2⟩ | exact⟨e0,e1,e2⟩ | exact⟨(World.cell?_alloc_lt _ _ _ m0).trans e0,(World.cell?_alloc_lt _ _ _ m1).trans e1,(World.cell?_alloc_lt _ _ _ m2).trans e2⟩ | exact⟨f0,f1,f2⟩)
   ((first
     | (go_at_call 135;refine(rrBinaryG op _).mono ?_;rintro e Wz ⟨g0,rfl,hg0,hbz,hrz⟩;have HBz:Hid (Below w1.heap.size w1 Wz):=Hd (by first | exact hbz | exact below_undrew hbz | exact below_undrew (m:=1) hbz);have HRz:=Hd hrz;have HG0:Hid (w1.heap.size≤g0):=Hd hg0;have HZz:=Hd (HZ1.out.up (Tn.of_below (S:=[]) HBz.out) nil_sub);have z0:=HZz.out.at_ 0 p0 _ rfl;have z1:=HZz.out.at_ 1 p2 _ rfl;have z2:=HZz.out.at_ 2 p3 _ rfl;clear hbz hrz hg0)
     | (go_at_call 89;refine(rrMade (b:=b) (L:=L) 1 g0 (HM1.out.below HBz.out) HP.out.1 HP.out.2).mono ?_;rintro e Wa ⟨a0,a1,a2,rfl,hba,hpa,hc0,hc1,hc2⟩;have HKa:=Hd (made_new (x:=mkOp 6 op) HM1.out rfl rfl HBz.out HG0.out HRz.out hba hpa hc0 hc1 hc2 (Below.refl _ _));have HZa:=Hd (HZ1.out.up HKa.out.2.1 nil_sub);have e0:=HZa.out.at_ 0 p0 _ rfl;have e1:=HZa.out.at_ 1 p2 _ rfl;have e2:=HZa.out.at_ 2 p3 _ rfl;have m0:=World.block_lt_of_cell? _ _ e0;have m1:=World.block_lt_of_cell? _ _ e1;have m2:=World.block_lt_of_cell? _ _ e2;clear hba hpa hc0 hc1 hc2)
     | (go_at_call 50;refine(rrNextA [lvV b side,fnV 116 #[rp a0,rp a1,rp a2],fnV 133 #[rp p0,rp p1,rp p2,rp p3]] 1 (by simp) HKa.out.1 hst (fns_cons (fns_cons (fns_cons (fns_nil))))).mono ?_;rintro e Wb ⟨rfl,hx⟩;have HX:=Hd hx;obtain⟨va2,L3,hM3,hT3,hg3⟩:=hx;have HZb:=Hd ((HZa.out.up (tn_alloc _) nil_sub).up hT3 (push_sub HKa.out.1));have f0:=HZb.out.at_ 0 p0 _ rfl;have f1:=HZb.out.at_ 1 p2 _ rfl;have f2:=HZb.out.at_ 2 p3 _ rfl;clear hM3 hT3 hg3)))
  go_wp2_with fail
  go_end0
  have hal:=(tn_alloc (L:=g0::L) (w:=Wa) (.cells #[lvV b side,fnV 116 #[rp a0,rp a1,rp a2],fnV 133 #[rp p0,rp p1,rp p2,rp p3]] 1));have hE:=HKa.out.2.2.1.up hal nil_sub List.not_mem_nil;refine turn_made (eb:=g0) (x:=mkOp 6 op) (new:=[.m side,.made (mkOp 6 op) (ps.length-1),.left (zsL zs) side]) (vt:=[lvV b side,fnV 116 #[rp a0,rp a1,rp a2],fnV 133 #[rp p0,rp p1,rp p2,rp p3]]) HM.out HM1.out HT1.out (HKa.out.1.alloc _) (HKa.out.2.1.trans hal HM1.out.lv (fun k hk=>.inl hk)) hE (Nat.le_trans HT1.out.size HG0.out) ?_ ⟨rfl,HX.out⟩;exact⟨[],[g0],rfl,⟨rfl,rfl⟩,[g0],[],rfl,⟨g0,rfl,hE,HKa.out.2.2.2.1.up hal nil_sub⟩,[],[],rfl,((HOP.out.up HT1.out hbs (fun k hk=>absurd hk List.not_mem_nil)).up HKa.out.2.1 nil_sub (fun k hk=>absurd hk List.not_mem_nil)).up hal nil_sub (fun k hk=>absurd hk List.not_mem_nil),rfl⟩
theorem trn_once(zs:List (Int × ByteArray))(side:Lv)(p0 p1 p2 g c1:Nat)(hz:OpsOK zs)(h:Mem w b A n c all r va st vp ps sz L)(hst:st.length≤1000000)(hps:1≤ps.length∧ps.length≤1000000)(h0:Fz L w p0 (rp b))(h1:Fz L w p1 (.slice (some ⟨g,0,none⟩) zs.length c1))(ho:∀ i,i<zs.length→(bls L w).cell? ⟨g,i,none⟩=some (.int .i64 (zs[i]?.getD default).1))(h2:Fz L w p2 (lvV b side)):
 Calls Tryz.prog 164 #[rp p0,rp p1,rp p2] w (Turn w b A n c all va st vp L [] (stepF (.once (zsL zs) side) ps sz r)):=by
 have HM:=Hd h;have c0:=h0.get;have c1':=h1.get;have HZ:=Hd (fzs_cons h0 (fzs_cons h2 (fzs_nil L w)));have hbs:=b_sub h
 show Calls _ _ _ _ (Turn w b A n c all va st vp L [] (if signP (zsL zs) r≠0 then .ok ([.m side,.made (mkOp 6 (signP (zsL zs) r)) (ps.length-1)],ps,sz) r.tail else .ok ([],ps,sz) r))
 skip
 have HT:=Hd (rrOp zs g c1 h.q hz fun i hi=>bl_up h.lb _ _ (ho i hi));have HP:=Hd hps;generalize hsg:signP (zsL zs) r=op at *;have HR:=Hd (show opR (zsL zs) r=if op=0 then r else r.tail from by rw[← hsg];rfl);clear h h0 h1 h2 ho hz hps hsg;generalize hm:zs.length=m at *;clear hm
 cases h0':(op != 0) with
 | false=>
  have hop:op=0:=by simpa using h0'
  rw[HR.out,if_pos hop] at HT;rw[if_neg (by simpa using hop)];clear HZ hbs HR hop
  go_enter Tryz.func164,Tryz.ntmps164
  go_wp2_with fail
  refine HT.out.mono ?_;rintro e w1 ⟨rfl,hq,hb⟩;have HQ:=Hd hq;have HB:=Hd hb;clear hq hb
  go_wp2_with fail
  go_end0
  exact turn_none HM.out HQ.out HB.out
 | true=>
  have hop:¬ op=0:=by simpa using h0'
  rw[HR.out,if_neg hop] at HT;rw[if_pos hop];clear HR hop
  go_enter Tryz.func164,Tryz.ntmps164
  go_wp2_with fail
  refine HT.out.mono ?_;rintro e w1 ⟨rfl,hq,hb⟩;obtain⟨hM1,hT1⟩:=HM.out.move hq hb;have HM1:=Hd hM1;have HT1:=Hd hT1;have HZ1:=Hd (HZ.out.up hT1 hbs);have d0:=HZ1.out.at_ 0 p0 _ rfl;have d1:=HZ1.out.at_ 1 p2 _ rfl;have l0:=World.block_lt_of_cell? _ _ d0;have l1:=World.block_lt_of_cell? _ _ d1;clear hq hb hM1 hT1 c0 c1' HZ
  go_upto_region 2 with(fail)
  go_region_held3 (fun W=>W.cell? ⟨p0,0,none⟩=some (rp b)∧W.cell? ⟨p2,0,none⟩=some (lvV b side)) (first | exact⟨d0,d1⟩ | exact⟨(World.cell?_alloc_lt _ _ _ l0).trans d0,(World.cell?_alloc_lt _ _ _ l1).trans d1⟩ | exact⟨z0,z1⟩ | exact⟨e0,e1⟩ | exact⟨(World.cell?_alloc_lt _ _ _ m0).trans e0,(World.cell?_alloc_lt _ _ _ m1).trans e1⟩ | exact⟨f0,f1⟩)
   ((first
     | (go_at_call 135;refine(rrBinaryG op _).mono ?_;rintro e Wz ⟨g0,rfl,hg0,hbz,hrz⟩;have HBz:Hid (Below w1.heap.size w1 Wz):=Hd (by first | exact hbz | exact below_undrew hbz | exact below_undrew (m:=1) hbz);have HRz:=Hd hrz;have HG0:Hid (w1.heap.size≤g0):=Hd hg0;have HZz:=Hd (HZ1.out.up (Tn.of_below (S:=[]) HBz.out) nil_sub);have z0:=HZz.out.at_ 0 p0 _ rfl;have z1:=HZz.out.at_ 1 p2 _ rfl;clear hbz hrz hg0)
     | (go_at_call 89;refine(rrMade (b:=b) (L:=L) 1 g0 (HM1.out.below HBz.out) HP.out.1 HP.out.2).mono ?_;rintro e Wa ⟨a0,a1,a2,rfl,hba,hpa,hc0,hc1,hc2⟩;have HKa:=Hd (made_new (x:=mkOp 6 op) HM1.out rfl rfl HBz.out HG0.out HRz.out hba hpa hc0 hc1 hc2 (Below.refl _ _));have HZa:=Hd (HZ1.out.up HKa.out.2.1 nil_sub);have e0:=HZa.out.at_ 0 p0 _ rfl;have e1:=HZa.out.at_ 1 p2 _ rfl;have m0:=World.block_lt_of_cell? _ _ e0;have m1:=World.block_lt_of_cell? _ _ e1;clear hba hpa hc0 hc1 hc2)
     | (go_at_call 50;refine(rrNextA [lvV b side,fnV 116 #[rp a0,rp a1,rp a2]] 1 (by simp) HKa.out.1 hst (fns_cons (fns_cons (fns_nil)))).mono ?_;rintro e Wb ⟨rfl,hx⟩;have HX:=Hd hx;obtain⟨va2,L3,hM3,hT3,hg3⟩:=hx;have HZb:=Hd ((HZa.out.up (tn_alloc _) nil_sub).up hT3 (push_sub HKa.out.1));have f0:=HZb.out.at_ 0 p0 _ rfl;have f1:=HZb.out.at_ 1 p2 _ rfl;clear hM3 hT3 hg3)))
  go_wp2_with fail
  go_end0
  have hal:=(tn_alloc (L:=g0::L) (w:=Wa) (.cells #[lvV b side,fnV 116 #[rp a0,rp a1,rp a2]] 1));have hE:=HKa.out.2.2.1.up hal nil_sub List.not_mem_nil;refine turn_made (eb:=g0) (x:=mkOp 6 op) (new:=[.m side,.made (mkOp 6 op) (ps.length-1)]) (vt:=[lvV b side,fnV 116 #[rp a0,rp a1,rp a2]]) HM.out HM1.out HT1.out (HKa.out.1.alloc _) (HKa.out.2.1.trans hal HM1.out.lv (fun k hk=>.inl hk)) hE (Nat.le_trans HT1.out.size HG0.out) ?_ ⟨rfl,HX.out⟩;exact⟨[],[g0],rfl,⟨rfl,rfl⟩,[g0],[],rfl,⟨g0,rfl,hE,HKa.out.2.2.2.1.up hal nil_sub⟩,rfl⟩
end
end
end Go.Proofs.YtokiaaapgkdpmaaGreatDoor
