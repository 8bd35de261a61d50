/- Parts of the proof: PrK. Conditions: each theorem's own. -/
import Derived.Test.YtokiaaapgkdpmaaGreatDoorV26
namespace Go.Proofs.YtokiaaapgkdpmaaGreatDoor
set_option linter.unusedVariables false
set_option linter.unusedSimpArgs false
set_option maxRecDepth 100000
set_option maxHeartbeats 40000000
section
open Go.RowKit Go.Sort
theorem own_slice{w:World}{base:Nat}{e:TypeId}{size:Nat}{v:Value}{n:Nat}{xs:List Value}(h:w.ownsRow base e size v n xs):∃ A c,v=.slice A n c:=by
 rcases h.2 with⟨rfl,rfl⟩|⟨g,cap,cur,rfl,_⟩
 · exact⟨none,0,rfl⟩
 · exact⟨_,_,rfl⟩
theorem step_append_any{P:Program}{w:World}{ops:Array Oper}{o:Oper}{a:Act}{K:Act→World→Prop}{Q:Exit→Act→World→Prop}{E:Prop}(hgd:o.guard=none) (s x:Operand) (t:TypeId)
 (ho:o.op=.call { callee:=.builtin .append,args:=#[s,x],argTypes:=#[t,t] })
 (base:Nat) (e:TypeId) (i:TypeInfo) (z:Value) (size bytes:Nat) (ht:P.underlying t=some (.slice e)) (hi:P.info? e=some i) (hz:i.zero=some z)
 (hsize:i.size=size) (hby:i.bytes=bytes) (hzs:z.cells.size=size) (hsz:0<size)
 (v:Value) (n:Nat) (xs:List Value) (hs:a.eval s=v) (hown:w.ownsRow base e size v n xs)
 (A:Option Addr) (m c:Nat) (news:List Value) (hx:a.eval x=.slice A m c) (hl:news.length=m*size) (hA:A=none→m=0) (hnews:∀ ad,A=some ad→∀ j u,news[j]?=some u→w.cell? (ad.add j)=some u) (h1:∀ u∈news,u.oneCell'=true)
 (h63:n+m≤maxLen) (hbytes:(n+m)*bytes≤140737488355328) (hbase:base≤w.heap.size)
 (h:∀ A' c' w',w'.ownsRow base e size (.slice A' (n+m) c') (n+m) (xs++news)→w.grownBy w' v.ownBlock→((Value.slice A' (n+m) c').ownBlock=v.ownBlock∨(Value.slice A' (n+m) c').ownBlock=some w.heap.size)→K (a.put o.dst (.slice A' (n+m) c')) w'):
 if Region.wanted o (yielded ops a.tmps)=true then Oper.wp P o a w K Q else E:=by
 have hw:Region.wanted o (yielded ops a.tmps)=true:=by simp [Region.wanted,hgd]
 rw [if_pos hw]
 cases A with
 | none=>
  obtain rfl:=hA rfl;obtain rfl:news=[]:=List.eq_nil_of_length_eq_zero (by simpa using hl);have hr:=run_append_nil (P:=P) (w:=w) base t o.type e i size ht hi v n xs hown c;obtain⟨A',c',rfl⟩:=own_slice hown;unfold Oper.wp execOp;simp only [ho,resolve,invoke,builtin,Sem.run_bind,Sem.run_pure,Result.andThen_ok,List.map_toArray,List.map_cons,List.map_nil,hs,hx,hr];exact h A' c' w (by simpa using hown) (World.grownBy.refl w _) (.inl rfl)
 | some ad=>
  obtain⟨v',w',hr,h2,h3,_,h5⟩:=run_append_own_at (P:=P) w base t o.type e i z size bytes ht hi hz hsize hby hzs hsz v n xs hown ad m c news hl (hnews ad rfl) h1 h63 hbytes hbase;obtain⟨A',c',rfl⟩:=own_slice h2;unfold Oper.wp execOp;simp only [ho,resolve,invoke,builtin,Sem.run_bind,Sem.run_pure,Result.andThen_ok,List.map_toArray,List.map_cons,List.map_nil,hs,hx,hr];exact h A' c' w' h2 h3 h5
section
variable {w w1 w2 w':World}{b:Nat}{A:Option Addr}{n c:Nat}{all r r' r2:List Tk}{va va1 vp:Value}{st:List Value}{ps:List Ex}{sz:Nat}{L L1 L2 S ft:List Nat}
theorem Mem.size(h:Mem w b A n c all r va st vp ps sz L):Mem (w.setCell ⟨b,4,none⟩ (.int .i64 ((sz+1:Nat):Int))) b A n c all r va st vp ps (sz+1) L∧Tn [b] L L w (w.setCell ⟨b,4,none⟩ (.int .i64 ((sz+1:Nat):Int))):=by
 have hoth:∀ k,k≠b→(w.setCell ⟨b,4,none⟩ (.int .i64 ((sz+1:Nat):Int))).heap[k]?=w.heap[k]?:=fun k hk=>heap_setCell_other _ _ _ _ hk;have ht:Tn [b] L L w (w.setCell ⟨b,4,none⟩ (.int .i64 ((sz+1:Nat):Int))):=⟨rfl,rfl,rfl,by simp,fun k _ hn=>hoth k (fun e=>hn (by simp [e])),fun k hk=>.inl hk,fun k hk _=>hk⟩;obtain⟨cs,h1,h2⟩:=h.op;refine⟨⟨?_,h.rd.up ht.ups (ht.up (b_sub h)),h.len,h.pre,h.fin,h.tks,own_other h.oa fun k hk=>hoth k fun e=>h.va_ne (e ▸ hk),⟨cs,own_other h1 fun k hk=>hoth k fun e=>h.vp_ne (e ▸ hk),flX_up ht.ups (ht.up (b_sub h)) h2⟩,h.lb,h.la,h.lp,fun k hk=>by simpa using h.lv k hk⟩,ht⟩;rw [setCell_eq_setRow _ _ _ _ _ _ _ h.row,setRow_heap _ _ _ _ _ _ h.row];rfl
theorem add_zero_addr(g k:Nat):(⟨g,0,none⟩:Addr).add k=⟨g,k,none⟩:=by unfold Addr.add;split <;> simp_all
theorem add_addr(g o k:Nat):(⟨g,o,none⟩:Addr).add k=⟨g,o+k,none⟩:=by unfold Addr.add;split <;> simp_all
theorem tail_row{A3:Option Addr}{m cp f:Nat}{cs:List Value}{T:TypeId}(ho:w.ownsRow 0 T 6 (.slice A3 m cp) m cs) (hf:f≤m):
 ((if cp=f then A3 else Option.map (fun x=>x.add (f*6)) A3)=none→m-f=0) ∧
   ∀ ad,(if cp=f then A3 else Option.map (fun x=>x.add (f*6)) A3)=some ad→∀ j u,(cs.drop (f*6))[j]?=some u→w.cell? (ad.add j)=some u:=by
 have hl:=ho.1;rcases ho.2 with⟨h1,h2⟩|⟨g,cap,cur,h1,_,hh,h2,_⟩
 · injection h1 with h1 h3 h4;subst h1 h2;refine⟨fun _=>by omega,fun ad he=>?_⟩
   split at he <;> simp at he
 · injection h1 with h1 h3 h4;subst h1 h4
   split
   · rename_i hc
     have:cs.drop (f*6)=[]:=List.drop_eq_nil_of_le (by omega);rw [this];exact⟨fun h=>by simp at h,fun ad he j u hj=>by simp at hj⟩
   · refine⟨fun h=>by simp at h,fun ad he j u hj=>?_⟩;simp only [Option.map_some,Option.some.injEq] at he;subst he;rw [add_zero_addr,add_addr,ho.cellAt (f*6+j) (by rw [← hl];have:=(List.getElem?_eq_some_iff.1 hj).1;rw [List.length_drop] at this;omega)];rw [List.getElem?_drop] at hj;exact hj
theorem head_row{A3:Option Addr}{m cp f:Nat}{cs:List Value}{T:TypeId}(ho:w.ownsRow 0 T 6 (.slice A3 m cp) m cs) (hf:f≤m):w.ownsRow 0 T 6 (.slice A3 f cp) f (cs.take (f*6)):=by
 have hl:=ho.1;refine⟨by rw [List.length_take];omega,?_⟩;rcases ho.2 with⟨h1,h2⟩|⟨g,cap,cur,h1,hg,hh,h2,h3,h4,h5⟩
 · injection h1 with h1 h3 h4;subst h1 h4;have:f=0:=by omega
   subst this;exact .inl ⟨rfl,rfl⟩
 · injection h1 with h1 h6 h7;subst h1 h7;refine .inr ⟨g,cp,cur,rfl,hg,hh,by omega,h3,h4,?_⟩;rw [← h5,List.take_take]
   congr 1
   omega
theorem flX_split{W:World}:∀ {l:List Ex}{cs:List Value}(f:Nat),flX W l cs→f≤l.length→flX W (l.take f) (cs.take (f*6))∧flX W (l.drop f) (cs.drop (f*6))
 | l,cs,0,h,_=>⟨by simp [flX],by simpa using h⟩
 | [],cs,f+1,h,hf=>absurd hf (by simp)
 | x::l,cs,f+1,h,hf=>by
  obtain⟨A,ca,B,cb,cs1,rfl,h1,h2⟩:=h;obtain⟨h3,h4⟩:=flX_split f h2 (by simpa using hf);have e:(exL x A ca B cb).length=6:=rfl;have e2:(f+1)*6=(exL x A ca B cb).length+f*6:=by rw [e];omega
  have e3:(exL x A ca B cb++cs1).take ((f+1)*6)=exL x A ca B cb++cs1.take (f*6):=by rw [e2,List.take_length_add_append]
  have e4:(exL x A ca B cb++cs1).drop ((f+1)*6)=cs1.drop (f*6):=by rw [e2,List.drop_length_add_append]
  rw [e3,e4];exact⟨⟨A,ca,B,cb,_,rfl,h1,h3⟩,h4⟩
theorem withSubs_k(x:Ex) (l:List Ex) (Aa:Option Addr) (ca:Nat) (B:Option Addr) (cb:Nat):exA (withSubs x l) Aa ca B cb=#[.int .i64 x.k,.int .i64 x.n,.string x.s,.int .i64 x.op,.slice Aa x.arms.length ca,.slice B l.length cb]:=by
 cases x
 rfl
theorem withSubs_arms(x:Ex) (l:List Ex):(withSubs x l).arms=x.arms∧(withSubs x l).subs=l:=by
 cases x
 exact⟨rfl,rfl⟩
theorem made_subs{eb f ca c':Nat}{x:Ex}{Aa A':Option Addr}{cs:List Value}{w4:World}(h:Mem w b A n c all r va st vp ps sz L) (hf:f≤ps.length) (hps:ps.length≤1000000) (heL:eb∈L) (hrow:RowX w eb x Aa ca none 0) (harm:RdT (bls L w) Aa x.arms.length x.arms) (hv:vp.ownBlock≠some eb) (hxs:x.subs=[])
 (hfl:flX (bls L w) ps cs) (hgr:w.grownBy w4 none) (hown:w4.ownsRow 0 26 6 (.slice A' (ps.length-f) c') (ps.length-f) (cs.drop (f*6))) (hat:(Value.slice A' (ps.length-f) c').ownBlock=none∨(Value.slice A' (ps.length-f) c').ownBlock=some w.heap.size):
 Mem (w4.setCell ⟨eb,5,none⟩ (.slice A' (ps.length-f) c')) b A n c all r va st vp ps sz L∧Tn [eb] L L w (w4.setCell ⟨eb,5,none⟩ (.slice A' (ps.length-f) c')) ∧
  RowX (w4.setCell ⟨eb,5,none⟩ (.slice A' (ps.length-f) c')) eb (withSubs x (ps.drop f)) Aa ca A' c'∧rdX (bls L (w4.setCell ⟨eb,5,none⟩ (.slice A' (ps.length-f) c'))) (withSubs x (ps.drop f)) Aa A'∧flX (bls L (w4.setCell ⟨eb,5,none⟩ (.slice A' (ps.length-f) c'))) ps cs:=by
 have hlt:eb<w.heap.size:=hrow.lt;have hrow4:w4.heap[eb]?=some (.cells (exA x Aa ca none 0) 26):=(hgr.block eb hlt (by simp)).trans hrow;generalize hW:w4.setCell ⟨eb,5,none⟩ (.slice A' (ps.length-f) c')=W;have hoth:∀ k,k≠eb→W.heap[k]?=w4.heap[k]?:=fun k hk=>by rw [← hW];exact heap_setCell_other _ _ _ _ hk
 have hW':W.heap[eb]?=some (.cells (exA (withSubs x (ps.drop f)) Aa ca A' c') 26):=by
  rw [← hW,setCell_eq_setRow _ _ _ _ _ _ _ hrow4,setRow_heap _ _ _ _ _ _ hrow4,withSubs_k]
  simp [exA,hxs]
 have hS:∀ k∈[eb],k∈L:=fun k hk=>by rw [List.mem_singleton.1 hk];exact heL
 have hsz:W.heap.size=w4.heap.size:=by rw [← hW];simp
 have ht:Tn [eb] L L w W:=⟨by rw [← hW];exact hgr.os,by rw [← hW];exact hgr.tape,by rw [← hW];exact hgr.output,by rw [hsz];exact hgr.size,fun k hk hn=>(hoth k (fun e=>hn (by simp [e]))).trans (hgr.block k hk (by simp)),fun k hk=>.inl hk,fun k hk _=>hk⟩;have hkeep:∀ k,k<w.heap.size→k≠eb→W.heap[k]?=w.heap[k]?:=fun k hk hn=>ht.block k hk (by simp [hn]);obtain⟨cs0,h1,h2⟩:=h.op
 have hbe:b≠eb:=by
  rintro rfl;have h3:=h.row;rw [show w.heap[b]?=_ from hrow] at h3;injection h3 with h3;injection h3 with _ h3;exact absurd h3 (by decide)
 have hfl':=flX_up ht.ups (ht.up hS) hfl;refine⟨⟨(hkeep b h.lt hbe).trans h.row,h.rd.up ht.ups (ht.up hS),h.len,h.pre,h.fin,h.tks,own_other h.oa fun k hk=>hkeep k (h.lv k (h.la k hk)) fun e=>?_,⟨cs0,own_other h1 fun k hk=>hkeep k (h.lv k (h.lp k hk)) fun e=>hv (e ▸ hk),flX_up ht.ups (ht.up hS) h2⟩,h.lb,h.la,h.lp,fun k hk=>Nat.lt_of_lt_of_le (h.lv k hk) ht.size⟩,ht,hW',?_,hfl'⟩
 · exact own_ne h.oa hrow (by decide) (e ▸ hk)
 · rw [rdX_eq,(withSubs_arms x (ps.drop f)).1,(withSubs_arms x (ps.drop f)).2];refine⟨harm.up ht.ups (ht.up hS),?_⟩;have hln:(ps.drop f).length=ps.length-f:=List.length_drop;refine⟨hln.symm ▸ rfl,by rw [hln];omega,fun hn=>?_⟩;rw [hln] at hn;rcases hown.2 with⟨h3,h4⟩|⟨g,cap,cur,h3,hg,hh,h4,h5,h6,h7⟩
   · omega
   · injection h3 with h3 h8 h9;subst h3 h9
     have hg2:g=w.heap.size:=by
      rcases hat with hat | hat
      · simp [Value.ownBlock] at hat
      · simpa [Value.ownBlock] using hat
     have hge:g≠eb:=by omega
     have hgL:g∉L:=fun hk=>by have:=h.lv g hk;omega
     have hgl:g<W.heap.size:=by rw [hsz];exact(Array.getElem?_eq_some_iff.1 hh).1
     refine⟨g,0,rfl,by rw [bls_size];exact hgl,flX_rd (flX_split f hfl' hf).2 fun j v hj=>?_⟩;rw [bls_cell (p:=⟨g,0+j,none⟩) hgL];unfold World.cell?;rw [hoth g hge];have:=hown.cellAt j (by rw [← hown.1];exact(List.getElem?_eq_some_iff.1 hj).1);unfold World.cell? at this;rw [Nat.zero_add];exact this.trans hj
theorem made_parts{eb f ca cb c2:Nat}{x:Ex}{Aa B A2:Option Addr}{cs:List Value}{w5 w6:World}(h:Mem w b A n c all r va st vp ps sz L) (h5:Mem w5 b A n c all r va st vp ps (sz+1) L) (hT:Tn [b,eb] L L w w5) (hf:f≤ps.length) (hrd:rdX (bls L w5) x Aa B)
 (hcs:flX (bls L w5) ps cs) (hb:Below w5.heap.size w5 w1) (hgr:w1.grownBy w6 vp.ownBlock) (hown:w6.ownsRow 0 26 6 (.slice A2 (f+1) c2) (f+1) (cs.take (f*6)++exL x Aa ca B cb)) (hat:(Value.slice A2 (f+1) c2).ownBlock=vp.ownBlock∨(Value.slice A2 (f+1) c2).ownBlock=some w1.heap.size):
 Turn w b A n c all va st vp L [eb] (.ok ([],ps.take f++[x],sz+1) r) (.returned (.tuple #[])) (w6.setCell ⟨b,3,none⟩ (.slice A2 (f+1) c2)):=by
 have hbl:=h5.lt;have hbl1:b<w1.heap.size:=Nat.lt_of_lt_of_le hbl hb.size;have hrow6:w6.heap[b]?=some (.cells (rdA (.slice A n c) ((n-r.length:Nat):Int) va vp (sz+1)) 60):=(hgr.block b hbl1 (fun e=>h5.vp_ne e.symm)).trans ((hb.block b hbl).trans h5.row)
 obtain⟨gg,hgg⟩:∃ gg,(Value.slice A2 (f+1) c2).ownBlock=some gg:=by
  rcases hown.2 with⟨h1,h2⟩|⟨g,cap,cur,h1,_⟩
  · omega
  · exact⟨g,by rw [h1];rfl⟩
 generalize hv':Value.slice A2 (f+1) c2=v' at *;have hggl:gg<w6.heap.size:=(hown.lt gg hgg).2
 have hgb:gg≠b:=by
  rintro rfl;exact own_ne hown hrow6 (by decide) hgg
 have hgnew:vp.ownBlock=some gg∨w5.heap.size≤gg:=by
  rcases hat with hat | hat
  · exact .inl (hat.symm.trans hgg)
  · rw [hgg] at hat;injection hat with hat;exact .inr (by have:=hb.size;omega)
 generalize hW:w6.setCell ⟨b,3,none⟩ v'=W;have hoth:∀ k,k≠b→W.heap[k]?=w6.heap[k]?:=fun k hk=>by rw [← hW];exact heap_setCell_other _ _ _ _ hk
 have hsz:W.heap.size=w6.heap.size:=by rw [← hW];simp
 have hS5:∀ k∈b::vp.ownBlock.toList,k∈L:=fun k hk=>by
  simp only [List.mem_cons,Option.mem_toList] at hk;rcases hk with rfl | hk
  · exact h5.lb
  · exact h5.lp k hk
 have ht5:Tn (b::vp.ownBlock.toList) L (gg::L) w5 W:=by
  refine⟨by rw [← hW];exact hgr.os.trans hb.os,by rw [← hW];exact hgr.tape.trans hb.tape,by rw [← hW];exact hgr.output.trans hb.output,by rw [hsz];exact Nat.le_trans hb.size hgr.size,fun k hk hn=>?_,fun k hk=>?_,fun k hk _=>List.mem_cons_of_mem _ hk⟩
  · simp only [List.mem_cons,Option.mem_toList,not_or] at hn;rw [hoth k hn.1,hgr.block k (Nat.lt_of_lt_of_le hk hb.size) (fun e=>hn.2 e.symm),hb.block k hk]
  · rcases List.mem_cons.1 hk with rfl | hk
    · rcases hgnew with h1 | h1
      · exact .inl (h5.lp k h1)
      · exact .inr h1
    · exact .inl hk
 have hTS:Tn (turnS b va vp [eb]) L L w w5:=hT.mono fun k hk=>by
  simp only [List.mem_cons,List.not_mem_nil,or_false] at hk;rcases hk with rfl | rfl
  · exact List.mem_cons_self
  · simp [turnS]
 have htw:Tn (turnS b va vp [eb]) L (gg::L) w W:=hTS.trans ht5 h.lv fun k hk=>.inl (by
  simp only [List.mem_cons,Option.mem_toList] at hk;rcases hk with rfl | hk
  · exact List.mem_cons_self
  · simp [turnS,hk])
 have hvae:va.ownBlock≠some gg:=fun e=>by
  rcases hgnew with h1 | h1
  · exact h5.vap e h1
  · have:=h5.lv gg (h5.la gg e);omega
 have hfx:flX (bls (gg::L) W) (ps.take f++[x]) (cs.take (f*6)++exL x Aa ca B cb):=
  flX_app (flX_up ht5.ups (ht5.up hS5) (flX_split f hcs hf).1) (flX_one (rdX_up ht5.ups (ht5.up hS5) x Aa B hrd))
 have hlen:(ps.take f++[x]).length=f+1:=by simp [Nat.min_eq_left hf]
 refine⟨rfl,va,v',gg::L,[],[],⟨?_,h5.rd.up ht5.ups (ht5.up hS5),h5.len,h5.pre,h5.fin,h5.tks,own_other h5.oa fun k hk=>?_,⟨_,?_,hfx⟩,List.mem_cons_of_mem _ h5.lb,fun k hk=>List.mem_cons_of_mem _ (h5.la k hk),fun k hk=>?_,fun k hk=>?_⟩,rfl,htw,List.nodup_nil,fun k hk=>absurd hk List.not_mem_nil,fun k hk=>absurd hk List.not_mem_nil,GoesV.refl _ _,?_⟩
 · rw [← hW,setCell_eq_setRow _ _ _ _ _ _ _ hrow6,setRow_heap _ _ _ _ _ _ hrow6];rfl
 · have hkb:k≠b:=fun e=>h5.va_ne (e ▸ hk);have hk5:=h5.lv k (h5.la k hk);rw [hoth k hkb,hgr.block k (Nat.lt_of_lt_of_le hk5 hb.size) (fun e=>h5.vap hk e.symm),hb.block k hk5]
 · show W.ownsRow 0 _ 6 v' (ps.take f++[x]).length _
   rw [hlen];exact own_other hown fun k hk=>hoth k (by rw [hgg] at hk;injection hk with hk;omega)
 · rw [hgg] at hk;injection hk with hk;exact hk ▸ List.mem_cons_self
 · rw [hsz];rcases List.mem_cons.1 hk with rfl | hk
   · exact hggl
   · have:=h5.lv k hk;have:=hb.size;have:=hgr.size;omega
 · rcases hgnew with h1 | h1
   · exact .inl (hgg.trans h1.symm)
   · refine .inr fun k hk=>?_;rw [hgg] at hk;injection hk with hk;have:=hT.size;omega
theorem own_eq(A:Option Addr) (m c m' c':Nat):(Value.slice A m c).ownBlock=(Value.slice A m' c').ownBlock:=by cases A <;> rfl
theorem cell_sc(W:World){g j:Nat}(v:Value){p o:Nat}(h:p≠g):(W.setCell ⟨g,j,none⟩ v).cell? ⟨p,o,none⟩=W.cell? ⟨p,o,none⟩:=World.cell?_of_block (heap_setCell_other _ _ _ _ h)
theorem fzs_grown{l:List (Nat × Value)}{w4:World}(k:Fzs L w l) (hg:w.grownBy w4 none):Fzs L w4 l:=
 k.up (S:=[]) ⟨hg.os,hg.tape,hg.output,hg.size,fun k hk _=>hg.block k hk (by simp),fun k hk=>.inl hk,fun k hk _=>hk⟩ nil_sub
theorem Fzs.ne{l:List (Nat × Value)}(k:Fzs L w l) (i p:Nat) (v:Value) (h:l[i]?=some (p,v)){g:Nat}(hg:g∈L):p≠g:=by
 have h1:=(bls_some (k (p,v) (List.mem_of_getElem? h))).2;rintro rfl;exact h1 hg
theorem trn_made(x:Ex) (f eb p0 p1 p2:Nat) (h:Mem w b A n c all r va st vp ps sz L) (hf:f≤ps.length) (hps:ps.length≤1000000) (hsz:sz≤1000000) (he:EAt L w eb x) (hv:vp.ownBlock≠some eb) (h0:Fz L w p0 (rp b)) (h1:Fz L w p1 (rp eb)) (h2:Fz L w p2 (.int .i64 (f:Int))):
 Calls Tryz.prog 116 #[rp p0,rp p1,rp p2] w (Turn w b A n c all va st vp L [eb] (madeO x f ps sz r)):=by
 obtain⟨i0,hi,hz0,hz1,hz2⟩:=infoEx;obtain⟨hs1,hs2,hs3⟩:=eat_sep h he;obtain⟨hSz,hTz⟩:=h.size;have HM:=Hd h;have HM1:=Hd hSz;have HT1:=Hd hTz;have HZ:=Hd (fzs_cons h0 (fzs_cons h1 (fzs_cons h2 (fzs_nil L w))));have HZ1:=Hd (HZ.out.up hTz (b_sub h));have HBS:=Hd (b_sub h);obtain⟨heL,hxs,Aa,ca,hrow,harm⟩:=he
 obtain⟨A3,cp,hv3,hmc⟩:∃ A3 cp,vp=.slice A3 ps.length cp∧ps.length≤cp:=by
  obtain⟨cs,ho,_⟩:=h.op;rcases ho.2 with⟨h1,h2⟩|⟨g,cap,cur,h1,_,_,h2,_⟩
  · exact⟨none,0,by rw [h1,h2],by omega⟩
  · exact⟨_,_,h1,h2⟩
 subst hv3;have hv:=Hd hv;have c4:w.cell? ⟨b,4,none⟩=some (.int .i64 (sz:Int)):=h.cell 4;have f4:w.frozen? ⟨b,4,none⟩=false:=h.q.fz 4;have c0:=h0.get;have c1:=h1.get;have c2:=h2.get;have hw1:IntKind.i64.wrap ((sz:Int)+1)=((sz+1:Nat):Int):=by rw [IntKind.wrap_i64];omega
 have hw2:wrap64 (((sz+1:Nat):Int))=((sz+1:Nat):Int):=by unfold wrap64;omega
 by_cases hle:sz+1≤60
 · have hd:decide (((sz+1:Nat):Int)≤60)=true:=decide_eq_true (by omega);clear h h0 h1 h2 hSz hTz;generalize hzz:((sz+1:Nat):Int)=zz at *
   go_enter Tryz.func116,Tryz.ntmps116
   go_upto_region 1 with(fail)
   generalize w.setCell _ _=w1 at *;have d0:=HZ1.out.at_ 0 p0 _ rfl;have d1:=HZ1.out.at_ 1 p1 _ rfl;have d2:=HZ1.out.at_ 2 p2 _ rfl;have d4:w1.cell? ⟨b,4,none⟩=some (.int .i64 zz):=by rw [← hzz];exact HM1.out.cell 4
   have d3:w1.cell? ⟨b,3,none⟩=some (.slice A3 ps.length cp):=HM1.out.cell 3;have HR1:=Hd (show RowX w1 eb x Aa ca none 0 from(HT1.out.block eb hrow.lt (by simpa using hs1)).trans hrow);obtain⟨k0,k1,k2,k3,k4,k5⟩:=HR1.out.cells;have harm1:=harm.up HT1.out.ups (HT1.out.up HBS.out);have HA1:=Hd harm1;obtain⟨cs,ho,hfl⟩:=HM1.out.op;have HO:=Hd ho;have HFL:=Hd hfl;have hcl:=ho.1;obtain⟨htn,hts⟩:=tail_row ho hf;have HTS:=Hd hts;have HTN:=Hd htn;have hfm:(f:Int)≤(ps.length:Int):=by omega
   have hf0:(0:Int)≤(f:Int):=by omega
   have hcp:(f:Int)≤(cp:Int):=by omega
   have hcp2:f≤cp:=by omega
   have n0:=HZ1.out.ne 0 p0 _ rfl heL;have n1:=HZ1.out.ne 1 p1 _ rfl heL;have n2:=HZ1.out.ne 2 p2 _ rfl heL;have nb:b≠eb:=fun e=>hs1 e.symm;clear c0 c1 c2 c4 f4 hrow ho hfl htn hts harm harm1;generalize hAA:(if cp=f then A3 else Option.map (fun x=>x.add (f*6)) A3)=AA at *;rw [hxs] at k5;have fz5:=HR1.out.fz 5
   go_upto_region 2 with(fail)
   refine wp_region_held_drew (S:=(fun W=>W.cell? ⟨p0,0,none⟩=some (rp b)∧W.cell? ⟨p1,0,none⟩=some (rp eb)∧W.cell? ⟨p2,0,none⟩=some (.int .i64 (f:Int))∧W.cell? ⟨b,3,none⟩=some (.slice A3 ps.length cp))) (by kernel_rfl) ?_ (fun hHeld=>?_)
   · exact⟨d0,d1,d2,d3⟩
   refine wpAnyH_take (i:=0) (oi:=?oi17) (v:=rp eb) ?h1x17 (by kernel_rfl) ?h3x17 (by kernel_rfl) ?h5x17 (Or.inl ⟨?h6x17,?h7x17⟩) hHeld ?h8x17
   case h1x17=>
    simp only [Ya,Yb,Yc];rfl
   case h3x17=>kernel_rfl
   case h5x17=>exact fun _ _ _ h=>h
   case h6x17=>rfl
   case h7x17=>
    intro W hSW
    (try dsimp only at hSW)
    go_split_ands
    first | (go_simp;done) | (go_simp;with_reducible rfl)
   (try simp only [Act.put,Yd,Ye,Yf])
   refine wpAnyH_take (i:=1) (oi:=?oi18) (v:=rp eb) ?h1x18 (by kernel_rfl) ?h3x18 (by kernel_rfl) ?h5x18 (Or.inl ⟨?h6x18,?h7x18⟩) hHeld ?h8x18
   case h1x18=>
    simp only [Ya,Yb,Yc];rfl
   case h3x18=>kernel_rfl
   case h5x18=>exact fun _ _ _ h=>h
   case h6x18=>rfl
   case h7x18=>
    intro W hSW
    (try dsimp only at hSW)
    go_split_ands
    first | (go_simp;done) | (go_simp;with_reducible rfl)
   (try simp only [Act.put,Yd,Ye,Yf])
   refine wpAnyH_take (i:=2) (oi:=?oi19) (v:=rp eb) ?h1x19 (by kernel_rfl) ?h3x19 (by kernel_rfl) ?h5x19 (Or.inl ⟨?h6x19,?h7x19⟩) hHeld ?h8x19
   case h1x19=>
    simp only [Ya,Yb,Yc];rfl
   case h3x19=>kernel_rfl
   case h5x19=>exact fun _ _ _ h=>h
   case h6x19=>rfl
   case h7x19=>
    intro W hSW
    (try dsimp only at hSW)
    go_split_ands
    first | (go_simp;done) | (go_simp;with_reducible rfl)
   (try simp only [Act.put,Yd,Ye,Yf])
   refine wpAnyH_take (i:=3) (oi:=?oi20) (v:=.pointer (some ⟨eb,5,none⟩)) ?h1x20 (by kernel_rfl) ?h3x20 (by kernel_rfl) ?h5x20 (Or.inl ⟨?h6x20,?h7x20⟩) hHeld ?h8x20
   case h1x20=>
    simp only [Ya,Yb,Yc];rfl
   case h3x20=>kernel_rfl
   case h5x20=>exact fun _ _ _ h=>h
   case h6x20=>rfl
   case h7x20=>
    intro W hSW
    (try dsimp only at hSW)
    go_split_ands
    first | (go_simp;done) | (go_simp;with_reducible rfl)
   (try simp only [Act.put,Yd,Ye,Yf])
   refine wpAnyH_take (i:=5) (oi:=?oi21) (v:=rp b) ?h1x21 (by kernel_rfl) ?h3x21 (by kernel_rfl) ?h5x21 (Or.inl ⟨?h6x21,?h7x21⟩) hHeld ?h8x21
   case h1x21=>
    simp only [Ya,Yb,Yc];rfl
   case h3x21=>kernel_rfl
   case h5x21=>exact fun _ _ _ h=>h
   case h6x21=>rfl
   case h7x21=>
    intro W hSW
    (try dsimp only at hSW)
    go_split_ands
    first | (go_simp;done) | (go_simp;with_reducible rfl)
   (try simp only [Act.put,Yd,Ye,Yf])
   refine wpAnyH_take (i:=6) (oi:=?oi22) (v:=rp b) ?h1x22 (by kernel_rfl) ?h3x22 (by kernel_rfl) ?h5x22 (Or.inl ⟨?h6x22,?h7x22⟩) hHeld ?h8x22
   case h1x22=>
    simp only [Ya,Yb,Yc];rfl
   case h3x22=>kernel_rfl
   case h5x22=>exact fun _ _ _ h=>h
   case h6x22=>rfl
   case h7x22=>
    intro W hSW
    (try dsimp only at hSW)
    go_split_ands
    first | (go_simp;done) | (go_simp;with_reducible rfl)
   (try simp only [Act.put,Yd,Ye,Yf])
   refine wpAnyH_take (i:=7) (oi:=?oi23) (v:=.pointer (some ⟨b,3,none⟩)) ?h1x23 (by kernel_rfl) ?h3x23 (by kernel_rfl) ?h5x23 (Or.inl ⟨?h6x23,?h7x23⟩) hHeld ?h8x23
   case h1x23=>
    simp only [Ya,Yb,Yc];rfl
   case h3x23=>kernel_rfl
   case h5x23=>exact fun _ _ _ h=>h
   case h6x23=>rfl
   case h7x23=>
    intro W hSW
    (try dsimp only at hSW)
    go_split_ands
    first | (go_simp;done) | (go_simp;with_reducible rfl)
   (try simp only [Act.put,Yd,Ye,Yf])
   refine wpAnyH_take (i:=8) (oi:=?oi24) (v:=.slice A3 ps.length cp) ?h1x24 (by kernel_rfl) ?h3x24 (by kernel_rfl) ?h5x24 (Or.inl ⟨?h6x24,?h7x24⟩) hHeld ?h8x24
   case h1x24=>
    simp only [Ya,Yb,Yc];rfl
   case h3x24=>kernel_rfl
   case h5x24=>exact fun _ _ _ h=>h
   case h6x24=>rfl
   case h7x24=>
    intro W hSW
    (try dsimp only at hSW)
    go_split_ands
    first | (go_simp;done) | (go_simp;with_reducible rfl)
   (try simp only [Act.put,Yd,Ye,Yf])
   refine wpAnyH_take (i:=9) (oi:=?oi25) (v:=.int .i64 (f:Int)) ?h1x25 (by kernel_rfl) ?h3x25 (by kernel_rfl) ?h5x25 (Or.inl ⟨?h6x25,?h7x25⟩) hHeld ?h8x25
   case h1x25=>
    simp only [Ya,Yb,Yc];rfl
   case h3x25=>kernel_rfl
   case h5x25=>exact fun _ _ _ h=>h
   case h6x25=>rfl
   case h7x25=>
    intro W hSW
    (try dsimp only at hSW)
    go_split_ands
    first | (go_simp;done) | (go_simp;with_reducible rfl)
   (try simp only [Act.put,Yd,Ye,Yf])
   refine wpAnyH_take (i:=10) (oi:=?oi26) (v:=.slice AA (ps.length-f) (cp-f)) ?h1x26 (by kernel_rfl) ?h3x26 (by kernel_rfl) ?h5x26 (Or.inl ⟨?h6x26,?h7x26⟩) hHeld ?h8x26
   case h1x26=>
    simp only [Ya,Yb,Yc];rfl
   case h3x26=>kernel_rfl
   case h5x26=>exact fun _ _ _ h=>h
   case h6x26=>rfl
   case h7x26=>
    intro W hSW
    (try dsimp only at hSW)
    go_split_ands
    first | (go_simp;done) | (go_simp;with_reducible rfl)
   (try simp only [Act.put,Yd,Ye,Yf])
   refine wpAnyH_ready (rs:=[4]) (by kernel_rfl) (by simp) ?_;refine AllReadyH.cons (by rfl) (fun K hK=>?_) ?_
   · go_simp
     refine hK.out _ _ ?_ (fun hHeld=>?_)
     · exact⟨d0,d1,d2,d3⟩
     clear hK K
     (try simp only [Act.put,Yd,Ye,Yf])
     refine wpAnyH_ready (rs:=[11]) (by kernel_rfl) (by simp) ?_;refine AllReadyH.cons (by rfl) (fun K hK=>?_) ?_
     · refine step_append_any (by rfl) _ _ _ (by rfl) 0 26 i0 _ 6 88 Tryz.underlying24 hi hz1 hz0 hz2 rfl (by decide) (.slice none 0 0) 0 [] (by rfl) (World.ownsRow_nil _ _ _ _) _ (ps.length-f) _ (cs.drop (f*6)) (by rfl) (by rw [List.length_drop];omega) HTN.out HTS.out (fun u hu=>flX_cells HFL.out u (List.mem_of_mem_drop hu)) (by unfold maxLen;omega) (by omega) (Nat.zero_le _) ?_;intro A4 c4' w4 hown4 hgrow4 hat4;have hgr4:w1.grownBy w4 none:=⟨hgrow4.os,hgrow4.tape,hgrow4.output,hgrow4.size,fun k hk _=>hgrow4.block k hk (by simp [Value.ownBlock])⟩;have HG4:=Hd hgr4;have HOW4:=Hd hown4;have HAT4:=Hd hat4;have k5':w4.cell? ⟨eb,5,none⟩=some (.slice none 0 0):=(World.cell?_of_block (hgr4.block eb HR1.out.lt (by simp))).trans k5;have fz5':w4.frozen? ⟨eb,5,none⟩=false:=(World.frozen?_of_block (hgr4.block eb HR1.out.lt (by simp))).trans fz5;have HZ4:=Hd (fzs_grown HZ1.out hgr4);have e0:=HZ4.out.at_ 0 p0 _ rfl;have e1:=HZ4.out.at_ 1 p1 _ rfl;have e2:=HZ4.out.at_ 2 p2 _ rfl;have e3:w4.cell? ⟨b,3,none⟩=some (.slice A3 ps.length cp):=(World.cell?_of_block (hgr4.block b HM1.out.lt (by simp))).trans d3;clear hown4 hgrow4 hat4 hgr4;refine hK.out _ _ ?_ (fun hHeld=>?_)
       · exact⟨e0,e1,e2,e3⟩
       clear hK K
       (try simp only [Act.put,Yd,Ye,Yf])
       refine wpAnyH_take (i:=12) (oi:=?oi1) (v:=rp eb) ?h1x1 (by kernel_rfl) ?h3x1 (by kernel_rfl) ?h5x1 (Or.inl ⟨?h6x1,?h7x1⟩) hHeld ?h8x1
       case h1x1=>
        simp only [Ya,Yb,Yc];rfl
       case h3x1=>kernel_rfl
       case h5x1=>exact fun _ _ _ h=>h
       case h6x1=>rfl
       case h7x1=>
        intro W hSW
        (try dsimp only at hSW)
        go_split_ands
        first | (go_simp;done) | (go_simp;with_reducible rfl)
       (try simp only [Act.put,Yd,Ye,Yf])
       refine wpAnyH_take (i:=13) (oi:=?oi2) (v:=.pointer (some ⟨eb,5,none⟩)) ?h1x2 (by kernel_rfl) ?h3x2 (by kernel_rfl) ?h5x2 (Or.inl ⟨?h6x2,?h7x2⟩) hHeld ?h8x2
       case h1x2=>
        simp only [Ya,Yb,Yc];rfl
       case h3x2=>kernel_rfl
       case h5x2=>exact fun _ _ _ h=>h
       case h6x2=>rfl
       case h7x2=>
        intro W hSW
        (try dsimp only at hSW)
        go_split_ands
        first | (go_simp;done) | (go_simp;with_reducible rfl)
       (try simp only [Act.put,Yd,Ye,Yf])
       refine wpAnyH_ready (rs:=[14]) (by kernel_rfl) (by simp) ?_;refine AllReadyH.cons (by rfl) (fun K hK=>?_) ?_
       · go_simp
         refine hK.out _ _ ?_ (fun hHeld=>?_)
         · exact⟨(cell_sc _ _ n0).trans e0,(cell_sc _ _ n1).trans e1,(cell_sc _ _ n2).trans e2,(cell_sc _ _ nb).trans e3⟩
         clear hK K
         (try simp only [Act.put,Yd,Ye,Yf])
         refine wpAnyH_done (by kernel_rfl) ?_ _
         go_upto_region 3 with(fail)
         have hown4:=HOW4.out;rw [Nat.zero_add,List.nil_append] at hown4;have hat4:=HAT4.out;rw [Nat.zero_add] at hat4;obtain⟨hM5,hT5,hR5,hX5,hF5⟩:=made_subs HM1.out hf hps heL HR1.out HA1.out hv.out hxs HFL.out HG4.out hown4 hat4;have HO5:=Hd (own_other HO.out fun k hk=>hT5.block k (HM1.out.lv k (HM1.out.lp k hk)) (fun e=>hv.out (by rw [hk,List.mem_singleton.1 e])));have HT5:=Hd (Tn.trans (S:=[b,eb]) (HT1.out.mono (fun k hk=>by rw [List.mem_singleton.1 hk];exact List.mem_cons_self)) hT5 HM.out.lv (fun k hk=>.inl (by rw [List.mem_singleton.1 hk];simp)));have HZ5:=Hd (HZ1.out.up hT5 (fun k hk=>by rw [List.mem_singleton.1 hk];exact heL));have HM5:=Hd hM5;have HR5:=Hd hR5;have HX5:=Hd hX5;have HF5:=Hd hF5;generalize w4.setCell _ _=w5 at *;have HMS:=Hd (show madeS x f ps sz=ps.take f++[withSubs x (ps.drop f)] by unfold madeS;rw [if_pos hle]);generalize withSubs x (ps.drop f)=y at *;obtain⟨v0,v1,v2,v3,v4,v5⟩:=hR5.cells;generalize A4=B5 at *;generalize c4'=cb5 at *;clear hAA hM5 hT5 hR5 hX5 hF5 hown4 hat4 e0 e1 e2 e3 k5' fz5' d0 d1 d2 d3 d4 k0 k1 k2 k3 k4 k5 fz5;have HEX:=Hd (show exL y Aa ca B5 cb5=[.int .i64 y.k,.int .i64 y.n,.string y.s,.int .i64 y.op,.slice Aa y.arms.length ca,.slice B5 y.subs.length cb5] from rfl);generalize y.k=yk at *;generalize y.n=yn at *;generalize y.s=ys at *;generalize y.op=yo at *;generalize y.arms.length=ya at *;generalize y.subs.length=yb at *;have u0:=HZ5.out.at_ 0 p0 _ rfl;have u1:=HZ5.out.at_ 1 p1 _ rfl;have u2:=HZ5.out.at_ 2 p2 _ rfl;have u3:w5.cell? ⟨b,3,none⟩=some (.slice A3 ps.length cp):=HM5.out.cell 3;have l0:=World.block_lt_of_cell? _ _ u0;have l1:=World.block_lt_of_cell? _ _ u1;have l2:=World.block_lt_of_cell? _ _ u2;have le:=HR5.out.lt;have lb:=HM5.out.lt;have u3a:=fun o=>(World.cell?_alloc_lt w5 o ⟨b,3,none⟩ lb).trans u3;have np0:(Value.slice A3 ps.length cp).ownBlock≠some p0:=fun e=>HZ5.out.ne 0 p0 _ rfl (HM5.out.lp p0 e) rfl;have np1:(Value.slice A3 ps.length cp).ownBlock≠some p1:=fun e=>HZ5.out.ne 1 p1 _ rfl (HM5.out.lp p1 e) rfl;have np2:(Value.slice A3 ps.length cp).ownBlock≠some p2:=fun e=>HZ5.out.ne 2 p2 _ rfl (HM5.out.lp p2 e) rfl;have nb0:p0≠b:=HZ5.out.ne 0 p0 _ rfl HM5.out.lb;have nb1:p1≠b:=HZ5.out.ne 1 p1 _ rfl HM5.out.lb;have nb2:p2≠b:=HZ5.out.ne 2 p2 _ rfl HM5.out.lb;have HH5:=Hd fun w' (hb:Below w5.heap.size w5 w')=>own_belowX (head_row HO5.out hf) hb
         have HNW:=Hd (show ∀ ad,some (⟨w5.heap.size,0,none⟩:Addr)=some ad→∀ j u,([.int .i64 yk,.int .i64 yn,.string ys,.int .i64 yo,.slice Aa ya ca,.slice B5 yb cb5]:List Value)[j]?=some u→(w5.alloc (.cells #[.int .i64 yk,.int .i64 yn,.string ys,.int .i64 yo,.slice Aa ya ca,.slice B5 yb cb5] 26)).drew.cell? (ad.add j)=some u from fun ad e j u hu=>by
          injection e with e;subst e;rw [add_zero_addr];exact(World.cell?_alloc_new w5 _ _ j).trans (by simpa using hu))
         have HON:=Hd (show ∀ u∈([.int .i64 yk,.int .i64 yn,.string ys,.int .i64 yo,.slice Aa ya ca,.slice B5 yb cb5]:List Value),u.oneCell'=true from fun u hu=>by
          simp only [List.mem_cons,List.not_mem_nil,or_false] at hu;rcases hu with rfl | rfl | rfl | rfl | rfl | rfl <;> rfl)
         refine wp_region_held_drew (S:=(fun W=>W.cell? ⟨p0,0,none⟩=some (rp b)∧W.cell? ⟨p1,0,none⟩=some (rp eb)∧W.cell? ⟨p2,0,none⟩=some (.int .i64 (f:Int))∧W.cell? ⟨eb,0,none⟩=some (.int .i64 yk)∧W.cell? ⟨eb,1,none⟩=some (.int .i64 yn)∧W.cell? ⟨eb,2,none⟩=some (.string ys)∧W.cell? ⟨eb,3,none⟩=some (.int .i64 yo)∧W.cell? ⟨eb,4,none⟩=some (.slice Aa ya ca)∧W.cell? ⟨eb,5,none⟩=some (.slice B5 yb cb5))) (by kernel_rfl) ?_ (fun hHeld=>?_)
         · exact⟨u0,u1,u2,v0,v1,v2,v3,v4,v5⟩
         refine wpAnyH_take (i:=0) (oi:=?oi3) (v:=rp b) ?h1x3 (by kernel_rfl) ?h3x3 (by kernel_rfl) ?h5x3 (Or.inl ⟨?h6x3,?h7x3⟩) hHeld ?h8x3
         case h1x3=>
          simp only [Ya,Yb,Yc];rfl
         case h3x3=>kernel_rfl
         case h5x3=>exact fun _ _ _ h=>h
         case h6x3=>rfl
         case h7x3=>
          intro W hSW
          (try dsimp only at hSW)
          go_split_ands
          first | (go_simp;done) | (go_simp;with_reducible rfl)
         (try simp only [Act.put,Yd,Ye,Yf])
         refine wpAnyH_take (i:=1) (oi:=?oi4) (v:=rp b) ?h1x4 (by kernel_rfl) ?h3x4 (by kernel_rfl) ?h5x4 (Or.inl ⟨?h6x4,?h7x4⟩) hHeld ?h8x4
         case h1x4=>
          simp only [Ya,Yb,Yc];rfl
         case h3x4=>kernel_rfl
         case h5x4=>exact fun _ _ _ h=>h
         case h6x4=>rfl
         case h7x4=>
          intro W hSW
          (try dsimp only at hSW)
          go_split_ands
          first | (go_simp;done) | (go_simp;with_reducible rfl)
         (try simp only [Act.put,Yd,Ye,Yf])
         refine wpAnyH_take (i:=2) (oi:=?oi5) (v:=rp b) ?h1x5 (by kernel_rfl) ?h3x5 (by kernel_rfl) ?h5x5 (Or.inl ⟨?h6x5,?h7x5⟩) hHeld ?h8x5
         case h1x5=>
          simp only [Ya,Yb,Yc];rfl
         case h3x5=>kernel_rfl
         case h5x5=>exact fun _ _ _ h=>h
         case h6x5=>rfl
         case h7x5=>
          intro W hSW
          (try dsimp only at hSW)
          go_split_ands
          first | (go_simp;done) | (go_simp;with_reducible rfl)
         (try simp only [Act.put,Yd,Ye,Yf])
         refine wpAnyH_take (i:=3) (oi:=?oi6) (v:=.pointer (some ⟨b,3,none⟩)) ?h1x6 (by kernel_rfl) ?h3x6 (by kernel_rfl) ?h5x6 (Or.inl ⟨?h6x6,?h7x6⟩) hHeld ?h8x6
         case h1x6=>
          simp only [Ya,Yb,Yc];rfl
         case h3x6=>kernel_rfl
         case h5x6=>exact fun _ _ _ h=>h
         case h6x6=>rfl
         case h7x6=>
          intro W hSW
          (try dsimp only at hSW)
          go_split_ands
          first | (go_simp;done) | (go_simp;with_reducible rfl)
         (try simp only [Act.put,Yd,Ye,Yf])
         refine wpAnyH_take (i:=5) (oi:=?oi7) (v:=.int .i64 (f:Int)) ?h1x7 (by kernel_rfl) ?h3x7 (by kernel_rfl) ?h5x7 (Or.inl ⟨?h6x7,?h7x7⟩) hHeld ?h8x7
         case h1x7=>
          simp only [Ya,Yb,Yc];rfl
         case h3x7=>kernel_rfl
         case h5x7=>exact fun _ _ _ h=>h
         case h6x7=>rfl
         case h7x7=>
          intro W hSW
          (try dsimp only at hSW)
          go_split_ands
          first | (go_simp;done) | (go_simp;with_reducible rfl)
         (try simp only [Act.put,Yd,Ye,Yf])
         refine wpAnyH_take (i:=7) (oi:=?oi8) (v:=rp eb) ?h1x8 (by kernel_rfl) ?h3x8 (by kernel_rfl) ?h5x8 (Or.inl ⟨?h6x8,?h7x8⟩) hHeld ?h8x8
         case h1x8=>
          simp only [Ya,Yb,Yc];rfl
         case h3x8=>kernel_rfl
         case h5x8=>exact fun _ _ _ h=>h
         case h6x8=>rfl
         case h7x8=>
          intro W hSW
          (try dsimp only at hSW)
          go_split_ands
          first | (go_simp;done) | (go_simp;with_reducible rfl)
         (try simp only [Act.put,Yd,Ye,Yf])
         refine wpAnyH_take (i:=8) (oi:=?oi9) (v:=rp eb) ?h1x9 (by kernel_rfl) ?h3x9 (by kernel_rfl) ?h5x9 (Or.inl ⟨?h6x9,?h7x9⟩) hHeld ?h8x9
         case h1x9=>
          simp only [Ya,Yb,Yc];rfl
         case h3x9=>kernel_rfl
         case h5x9=>exact fun _ _ _ h=>h
         case h6x9=>rfl
         case h7x9=>
          intro W hSW
          (try dsimp only at hSW)
          go_split_ands
          first | (go_simp;done) | (go_simp;with_reducible rfl)
         (try simp only [Act.put,Yd,Ye,Yf])
         refine wpAnyH_take (i:=9) (oi:=?oi10) (v:=.agg #[.int .i64 yk,.int .i64 yn,.string ys,.int .i64 yo,.slice Aa ya ca,.slice B5 yb cb5]) ?h1x10 (by kernel_rfl) ?h3x10 (by kernel_rfl) ?h5x10 (Or.inl ⟨?h6x10,?h7x10⟩) hHeld ?h8x10
         case h1x10=>
          simp only [Ya,Yb,Yc];rfl
         case h3x10=>kernel_rfl
         case h5x10=>exact fun _ _ _ h=>h
         case h6x10=>rfl
         case h7x10=>
          intro W hSW
          (try dsimp only at hSW)
          go_split_ands
          first | (go_simp;done) | (go_simp;with_reducible rfl)
         (try simp only [Act.put,Yd,Ye,Yf])
         refine wpAnyH_ready (rs:=[4,10]) (by kernel_rfl) (by simp) ?_;refine AllReadyH.cons (by rfl) (fun K hK=>?_) ?_
         · go_simp
           refine hK.out _ _ ?_ (fun hHeld=>?_)
           · exact⟨u0,u1,u2,v0,v1,v2,v3,v4,v5⟩
           clear hK K
           (try simp only [Act.put,Yd,Ye,Yf])
           refine wpAnyH_take (i:=6) (oi:=?oi11) (v:=.slice A3 f cp) ?h1x11 (by kernel_rfl) ?h3x11 (by kernel_rfl) ?h5x11 (Or.inl ⟨?h6x11,?h7x11⟩) hHeld ?h8x11
           case h1x11=>
            simp only [Ya,Yb,Yc];rfl
           case h3x11=>kernel_rfl
           case h5x11=>exact fun _ _ _ h=>h
           case h6x11=>rfl
           case h7x11=>
            intro W hSW
            (try dsimp only at hSW)
            go_split_ands
            first | (go_simp;done) | (go_simp;with_reducible rfl)
           (try simp only [Act.put,Yd,Ye,Yf])
           refine wpAnyH_ready (rs:=[10]) (by kernel_rfl) (by simp) ?_;refine AllReadyH.cons (by rfl) (fun K hK=>?_) ?_
           · go_simp
             refine hK.out _ _ ?_ (fun hHeld=>?_)
             · exact⟨(World.cell?_alloc_lt _ _ _ l0).trans u0,(World.cell?_alloc_lt _ _ _ l1).trans u1,(World.cell?_alloc_lt _ _ _ l2).trans u2,(World.cell?_alloc_lt _ _ _ le).trans v0,(World.cell?_alloc_lt _ _ _ le).trans v1,(World.cell?_alloc_lt _ _ _ le).trans v2,(World.cell?_alloc_lt _ _ _ le).trans v3,(World.cell?_alloc_lt _ _ _ le).trans v4,(World.cell?_alloc_lt _ _ _ le).trans v5⟩
             clear hK K
             (try simp only [Act.put,Yd,Ye,Yf])
             refine wpAnyH_ready (rs:=[11]) (by kernel_rfl) (by simp) ?_;refine AllReadyH.cons (by rfl) (fun K hK=>?_) ?_
             · refine step_append_any (by rfl) _ _ _ (by rfl) 0 26 i0 _ 6 88 Tryz.underlying24 hi hz1 hz0 hz2 rfl (by decide) (.slice A3 f cp) f (cs.take (f*6)) (by rfl) (HH5.out _ (by exact((Below.refl _ _).alloc (Nat.le_refl _) _).drew)) (some ⟨w5.heap.size,0,none⟩) 1 1 [.int .i64 yk,.int .i64 yn,.string ys,.int .i64 yo,.slice Aa ya ca,.slice B5 yb cb5] (by rfl) rfl (fun h=>by cases h) HNW.out HON.out (by unfold maxLen;omega) (by omega) (Nat.zero_le _) ?_;intro A6 c6 w6 hown6 hgrow6 hat6;have HG6:=Hd hgrow6;have HOW6:=Hd hown6;have HAT6:=Hd hat6;have HK6:=Hd fun k (hk:k<w5.heap.size) (hn:(Value.slice A3 ps.length cp).ownBlock≠some k)=>(show w6.heap[k]?=w5.heap[k]? from(hgrow6.block k (by simp;omega) (fun e=>hn ((own_eq A3 _ _ _ _).trans e.symm))).trans (heap_alloc_old w5 _ hk));have x0:=(World.cell?_of_block (HK6.out p0 l0 np0)).trans u0;have x1:=(World.cell?_of_block (HK6.out p1 l1 np1)).trans u1;have x2:=(World.cell?_of_block (HK6.out p2 l2 np2)).trans u2;have y0:=(World.cell?_of_block (HK6.out eb le hv.out)).trans v0;have y1:=(World.cell?_of_block (HK6.out eb le hv.out)).trans v1;have y2:=(World.cell?_of_block (HK6.out eb le hv.out)).trans v2;have y3:=(World.cell?_of_block (HK6.out eb le hv.out)).trans v3;have y4:=(World.cell?_of_block (HK6.out eb le hv.out)).trans v4;have y5:=(World.cell?_of_block (HK6.out eb le hv.out)).trans v5;have x3:=(World.cell?_of_block (HK6.out b lb HM5.out.vp_ne)).trans u3;have fz3:w6.frozen? ⟨b,3,none⟩=false:=(World.frozen?_of_block (HK6.out b lb HM5.out.vp_ne)).trans (HM5.out.q.fz 3);clear hown6 hgrow6 hat6;refine hK.out _ _ ?_ (fun hHeld=>?_)
               · exact⟨x0,x1,x2,y0,y1,y2,y3,y4,y5⟩
               clear hK K
               (try simp only [Act.put,Yd,Ye,Yf])
               refine wpAnyH_take (i:=12) (oi:=?oi12) (v:=rp b) ?h1x12 (by kernel_rfl) ?h3x12 (by kernel_rfl) ?h5x12 (Or.inl ⟨?h6x12,?h7x12⟩) hHeld ?h8x12
               case h1x12=>
                simp only [Ya,Yb,Yc];rfl
               case h3x12=>kernel_rfl
               case h5x12=>exact fun _ _ _ h=>h
               case h6x12=>rfl
               case h7x12=>
                intro W hSW
                (try dsimp only at hSW)
                go_split_ands
                first | (go_simp;done) | (go_simp;with_reducible rfl)
               (try simp only [Act.put,Yd,Ye,Yf])
               refine wpAnyH_take (i:=13) (oi:=?oi13) (v:=.pointer (some ⟨b,3,none⟩)) ?h1x13 (by kernel_rfl) ?h3x13 (by kernel_rfl) ?h5x13 (Or.inl ⟨?h6x13,?h7x13⟩) hHeld ?h8x13
               case h1x13=>
                simp only [Ya,Yb,Yc];rfl
               case h3x13=>kernel_rfl
               case h5x13=>exact fun _ _ _ h=>h
               case h6x13=>rfl
               case h7x13=>
                intro W hSW
                (try dsimp only at hSW)
                go_split_ands
                first | (go_simp;done) | (go_simp;with_reducible rfl)
               (try simp only [Act.put,Yd,Ye,Yf])
               refine wpAnyH_ready (rs:=[14]) (by kernel_rfl) (by simp) ?_;refine AllReadyH.cons (by rfl) (fun K hK=>?_) ?_
               · go_simp
                 refine hK.out _ _ ?_ (fun hHeld=>?_)
                 · exact⟨(cell_sc _ _ nb0).trans x0,(cell_sc _ _ nb1).trans x1,(cell_sc _ _ nb2).trans x2,(cell_sc _ _ hs1).trans y0,(cell_sc _ _ hs1).trans y1,(cell_sc _ _ hs1).trans y2,(cell_sc _ _ hs1).trans y3,(cell_sc _ _ hs1).trans y4,(cell_sc _ _ hs1).trans y5⟩
                 clear hK K
                 (try simp only [Act.put,Yd,Ye,Yf])
                 refine wpAnyH_done (by kernel_rfl) ?_ _
                 go_wp2_with fail
                 go_end0
                 show Turn w b A n c all va st (.slice A3 ps.length cp) L [eb] (.ok ([],madeS _ f ps sz,sz+1) r) _ _
                 rw [HMS.out];exact made_parts HM.out HM5.out HT5.out hf HX5.out HF5.out (show Below w5.heap.size w5 (w5.alloc _).drew from((Below.refl _ _).alloc (Nat.le_refl _) _).drew) (by rw [own_eq A3 ps.length cp f cp];exact HG6.out) (by rw [HEX.out];exact HOW6.out) (by rw [own_eq A3 ps.length cp f cp];exact HAT6.out)
               exact AllReadyH.nil
             exact AllReadyH.nil
           exact AllReadyH.nil
         refine AllReadyH.cons (by rfl) (fun K hK=>?_) ?_
         · go_simp
           refine hK.out _ _ ?_ (fun hHeld=>?_)
           · exact⟨(World.cell?_alloc_lt _ _ _ l0).trans u0,(World.cell?_alloc_lt _ _ _ l1).trans u1,(World.cell?_alloc_lt _ _ _ l2).trans u2,(World.cell?_alloc_lt _ _ _ le).trans v0,(World.cell?_alloc_lt _ _ _ le).trans v1,(World.cell?_alloc_lt _ _ _ le).trans v2,(World.cell?_alloc_lt _ _ _ le).trans v3,(World.cell?_alloc_lt _ _ _ le).trans v4,(World.cell?_alloc_lt _ _ _ le).trans v5⟩
           clear hK K
           (try simp only [Act.put,Yd,Ye,Yf])
           refine wpAnyH_ready (rs:=[4]) (by kernel_rfl) (by simp) ?_;refine AllReadyH.cons (by rfl) (fun K hK=>?_) ?_
           · go_simp
             refine hK.out _ _ ?_ (fun hHeld=>?_)
             · exact⟨(World.cell?_alloc_lt _ _ _ l0).trans u0,(World.cell?_alloc_lt _ _ _ l1).trans u1,(World.cell?_alloc_lt _ _ _ l2).trans u2,(World.cell?_alloc_lt _ _ _ le).trans v0,(World.cell?_alloc_lt _ _ _ le).trans v1,(World.cell?_alloc_lt _ _ _ le).trans v2,(World.cell?_alloc_lt _ _ _ le).trans v3,(World.cell?_alloc_lt _ _ _ le).trans v4,(World.cell?_alloc_lt _ _ _ le).trans v5⟩
             clear hK K
             (try simp only [Act.put,Yd,Ye,Yf])
             refine wpAnyH_take (i:=6) (oi:=?oi14) (v:=.slice A3 f cp) ?h1x14 (by kernel_rfl) ?h3x14 (by kernel_rfl) ?h5x14 (Or.inl ⟨?h6x14,?h7x14⟩) hHeld ?h8x14
             case h1x14=>
              simp only [Ya,Yb,Yc];rfl
             case h3x14=>kernel_rfl
             case h5x14=>exact fun _ _ _ h=>h
             case h6x14=>rfl
             case h7x14=>
              intro W hSW
              (try dsimp only at hSW)
              go_split_ands
              first | (go_simp;done) | (go_simp;with_reducible rfl)
             (try simp only [Act.put,Yd,Ye,Yf])
             refine wpAnyH_ready (rs:=[11]) (by kernel_rfl) (by simp) ?_;refine AllReadyH.cons (by rfl) (fun K hK=>?_) ?_
             · refine step_append_any (by rfl) _ _ _ (by rfl) 0 26 i0 _ 6 88 Tryz.underlying24 hi hz1 hz0 hz2 rfl (by decide) (.slice A3 f cp) f (cs.take (f*6)) (by rfl) (HH5.out _ (by exact((Below.refl _ _).alloc (Nat.le_refl _) _).drew)) (some ⟨w5.heap.size,0,none⟩) 1 1 [.int .i64 yk,.int .i64 yn,.string ys,.int .i64 yo,.slice Aa ya ca,.slice B5 yb cb5] (by rfl) rfl (fun h=>by cases h) HNW.out HON.out (by unfold maxLen;omega) (by omega) (Nat.zero_le _) ?_;intro A6 c6 w6 hown6 hgrow6 hat6;have HG6:=Hd hgrow6;have HOW6:=Hd hown6;have HAT6:=Hd hat6;have HK6:=Hd fun k (hk:k<w5.heap.size) (hn:(Value.slice A3 ps.length cp).ownBlock≠some k)=>(show w6.heap[k]?=w5.heap[k]? from(hgrow6.block k (by simp;omega) (fun e=>hn ((own_eq A3 _ _ _ _).trans e.symm))).trans (heap_alloc_old w5 _ hk));have x0:=(World.cell?_of_block (HK6.out p0 l0 np0)).trans u0;have x1:=(World.cell?_of_block (HK6.out p1 l1 np1)).trans u1;have x2:=(World.cell?_of_block (HK6.out p2 l2 np2)).trans u2;have y0:=(World.cell?_of_block (HK6.out eb le hv.out)).trans v0;have y1:=(World.cell?_of_block (HK6.out eb le hv.out)).trans v1;have y2:=(World.cell?_of_block (HK6.out eb le hv.out)).trans v2;have y3:=(World.cell?_of_block (HK6.out eb le hv.out)).trans v3;have y4:=(World.cell?_of_block (HK6.out eb le hv.out)).trans v4;have y5:=(World.cell?_of_block (HK6.out eb le hv.out)).trans v5;have x3:=(World.cell?_of_block (HK6.out b lb HM5.out.vp_ne)).trans u3;have fz3:w6.frozen? ⟨b,3,none⟩=false:=(World.frozen?_of_block (HK6.out b lb HM5.out.vp_ne)).trans (HM5.out.q.fz 3);clear hown6 hgrow6 hat6;refine hK.out _ _ ?_ (fun hHeld=>?_)
               · exact⟨x0,x1,x2,y0,y1,y2,y3,y4,y5⟩
               clear hK K
               (try simp only [Act.put,Yd,Ye,Yf])
               refine wpAnyH_take (i:=12) (oi:=?oi15) (v:=rp b) ?h1x15 (by kernel_rfl) ?h3x15 (by kernel_rfl) ?h5x15 (Or.inl ⟨?h6x15,?h7x15⟩) hHeld ?h8x15
               case h1x15=>
                simp only [Ya,Yb,Yc];rfl
               case h3x15=>kernel_rfl
               case h5x15=>exact fun _ _ _ h=>h
               case h6x15=>rfl
               case h7x15=>
                intro W hSW
                (try dsimp only at hSW)
                go_split_ands
                first | (go_simp;done) | (go_simp;with_reducible rfl)
               (try simp only [Act.put,Yd,Ye,Yf])
               refine wpAnyH_take (i:=13) (oi:=?oi16) (v:=.pointer (some ⟨b,3,none⟩)) ?h1x16 (by kernel_rfl) ?h3x16 (by kernel_rfl) ?h5x16 (Or.inl ⟨?h6x16,?h7x16⟩) hHeld ?h8x16
               case h1x16=>
                simp only [Ya,Yb,Yc];rfl
               case h3x16=>kernel_rfl
               case h5x16=>exact fun _ _ _ h=>h
               case h6x16=>rfl
               case h7x16=>
                intro W hSW
                (try dsimp only at hSW)
                go_split_ands
                first | (go_simp;done) | (go_simp;with_reducible rfl)
               (try simp only [Act.put,Yd,Ye,Yf])
               refine wpAnyH_ready (rs:=[14]) (by kernel_rfl) (by simp) ?_;refine AllReadyH.cons (by rfl) (fun K hK=>?_) ?_
               · go_simp
                 refine hK.out _ _ ?_ (fun hHeld=>?_)
                 · exact⟨(cell_sc _ _ nb0).trans x0,(cell_sc _ _ nb1).trans x1,(cell_sc _ _ nb2).trans x2,(cell_sc _ _ hs1).trans y0,(cell_sc _ _ hs1).trans y1,(cell_sc _ _ hs1).trans y2,(cell_sc _ _ hs1).trans y3,(cell_sc _ _ hs1).trans y4,(cell_sc _ _ hs1).trans y5⟩
                 clear hK K
                 (try simp only [Act.put,Yd,Ye,Yf])
                 refine wpAnyH_done (by kernel_rfl) ?_ _
                 go_wp2_with fail
                 go_end0
                 show Turn w b A n c all va st (.slice A3 ps.length cp) L [eb] (.ok ([],madeS _ f ps sz,sz+1) r) _ _
                 rw [HMS.out];exact made_parts HM.out HM5.out HT5.out hf HX5.out HF5.out (show Below w5.heap.size w5 (w5.alloc _).drew from((Below.refl _ _).alloc (Nat.le_refl _) _).drew) (by rw [own_eq A3 ps.length cp f cp];exact HG6.out) (by rw [HEX.out];exact HOW6.out) (by rw [own_eq A3 ps.length cp f cp];exact HAT6.out)
               exact AllReadyH.nil
             exact AllReadyH.nil
           exact AllReadyH.nil
         exact AllReadyH.nil
       exact AllReadyH.nil
     exact AllReadyH.nil
   exact AllReadyH.nil
 · have hd:decide (((sz+1:Nat):Int)≤60)=false:=decide_eq_false (by omega);clear h h0 h1 h2 hSz hTz;generalize hzz:((sz+1:Nat):Int)=zz at *
   go_enter Tryz.func116,Tryz.ntmps116
   go_upto_region 1 with(fail)
   generalize w.setCell _ _=w1 at *;have d0:=HZ1.out.at_ 0 p0 _ rfl;have d1:=HZ1.out.at_ 1 p1 _ rfl;have d2:=HZ1.out.at_ 2 p2 _ rfl;have d4:w1.cell? ⟨b,4,none⟩=some (.int .i64 zz):=by rw [← hzz];exact HM1.out.cell 4
   have d3:w1.cell? ⟨b,3,none⟩=some (.slice A3 ps.length cp):=HM1.out.cell 3;have HR1:=Hd (show RowX w1 eb x Aa ca none 0 from(HT1.out.block eb hrow.lt (by simpa using hs1)).trans hrow);obtain⟨k0,k1,k2,k3,k4,k5⟩:=HR1.out.cells;have harm1:=harm.up HT1.out.ups (HT1.out.up HBS.out);have HA1:=Hd harm1;obtain⟨cs,ho,hfl⟩:=HM1.out.op;have HO:=Hd ho;have HFL:=Hd hfl;have hcl:=ho.1;obtain⟨htn,hts⟩:=tail_row ho hf;have HTS:=Hd hts;have HTN:=Hd htn;have hfm:(f:Int)≤(ps.length:Int):=by omega
   have hf0:(0:Int)≤(f:Int):=by omega
   have hcp:(f:Int)≤(cp:Int):=by omega
   have hcp2:f≤cp:=by omega
   have n0:=HZ1.out.ne 0 p0 _ rfl heL;have n1:=HZ1.out.ne 1 p1 _ rfl heL;have n2:=HZ1.out.ne 2 p2 _ rfl heL;have nb:b≠eb:=fun e=>hs1 e.symm;clear c0 c1 c2 c4 f4 hrow ho hfl htn hts harm harm1;generalize hAA:(if cp=f then A3 else Option.map (fun x=>x.add (f*6)) A3)=AA at *;rw [hxs] at k5
   go_upto_region 3 with(fail)
   have HO5:=Hd HO.out;have HT5:=Hd (HT1.out.mono (S1:=[b,eb]) (fun k hk=>by rw [List.mem_singleton.1 hk];exact List.mem_cons_self));have HZ5:=Hd HZ1.out;have HM5:=Hd HM1.out;have HR5:=Hd HR1.out;have HX5:=Hd (show rdX (bls L w1) x Aa none by rw [rdX_eq,hxs];exact⟨HA1.out,RdX.nil_ _⟩);have HF5:=Hd HFL.out;have HMS:=Hd (show madeS x f ps sz=ps.take f++[x] by unfold madeS;rw [if_neg hle]);obtain⟨v0,v1,v2,v3,v4,v5⟩:=HR1.out.cells;clear hAA d0 d1 d2 d3 d4 k0 k1 k2 k3 k4 k5 hxs HM1 HT1 HZ1 HR1 HA1 HFL HTS HTN HO;generalize w1=w5 at *;generalize x=y at *;obtain⟨B5,hB5⟩:∃ B5:Option Addr,B5=none:=⟨_,rfl⟩;obtain⟨cb5,hcb5⟩:∃ cb5:Nat,cb5=0:=⟨_,rfl⟩;rw [← hB5,← hcb5] at HR5 v5;rw [← hB5] at HX5;clear hB5 hcb5;have HEX:=Hd (show exL y Aa ca B5 cb5=[.int .i64 y.k,.int .i64 y.n,.string y.s,.int .i64 y.op,.slice Aa y.arms.length ca,.slice B5 y.subs.length cb5] from rfl);generalize y.k=yk at *;generalize y.n=yn at *;generalize y.s=ys at *;generalize y.op=yo at *;generalize y.arms.length=ya at *;generalize y.subs.length=yb at *;have u0:=HZ5.out.at_ 0 p0 _ rfl;have u1:=HZ5.out.at_ 1 p1 _ rfl;have u2:=HZ5.out.at_ 2 p2 _ rfl;have u3:w5.cell? ⟨b,3,none⟩=some (.slice A3 ps.length cp):=HM5.out.cell 3;have l0:=World.block_lt_of_cell? _ _ u0;have l1:=World.block_lt_of_cell? _ _ u1;have l2:=World.block_lt_of_cell? _ _ u2;have le:=HR5.out.lt;have lb:=HM5.out.lt;have u3a:=fun o=>(World.cell?_alloc_lt w5 o ⟨b,3,none⟩ lb).trans u3;have np0:(Value.slice A3 ps.length cp).ownBlock≠some p0:=fun e=>HZ5.out.ne 0 p0 _ rfl (HM5.out.lp p0 e) rfl;have np1:(Value.slice A3 ps.length cp).ownBlock≠some p1:=fun e=>HZ5.out.ne 1 p1 _ rfl (HM5.out.lp p1 e) rfl;have np2:(Value.slice A3 ps.length cp).ownBlock≠some p2:=fun e=>HZ5.out.ne 2 p2 _ rfl (HM5.out.lp p2 e) rfl;have nb0:p0≠b:=HZ5.out.ne 0 p0 _ rfl HM5.out.lb;have nb1:p1≠b:=HZ5.out.ne 1 p1 _ rfl HM5.out.lb;have nb2:p2≠b:=HZ5.out.ne 2 p2 _ rfl HM5.out.lb;have HH5:=Hd fun w' (hb:Below w5.heap.size w5 w')=>own_belowX (head_row HO5.out hf) hb
   have HNW:=Hd (show ∀ ad,some (⟨w5.heap.size,0,none⟩:Addr)=some ad→∀ j u,([.int .i64 yk,.int .i64 yn,.string ys,.int .i64 yo,.slice Aa ya ca,.slice B5 yb cb5]:List Value)[j]?=some u→(w5.alloc (.cells #[.int .i64 yk,.int .i64 yn,.string ys,.int .i64 yo,.slice Aa ya ca,.slice B5 yb cb5] 26)).drew.cell? (ad.add j)=some u from fun ad e j u hu=>by
    injection e with e;subst e;rw [add_zero_addr];exact(World.cell?_alloc_new w5 _ _ j).trans (by simpa using hu))
   have HON:=Hd (show ∀ u∈([.int .i64 yk,.int .i64 yn,.string ys,.int .i64 yo,.slice Aa ya ca,.slice B5 yb cb5]:List Value),u.oneCell'=true from fun u hu=>by
    simp only [List.mem_cons,List.not_mem_nil,or_false] at hu;rcases hu with rfl | rfl | rfl | rfl | rfl | rfl <;> rfl)
   refine wp_region_held_drew (S:=(fun W=>W.cell? ⟨p0,0,none⟩=some (rp b)∧W.cell? ⟨p1,0,none⟩=some (rp eb)∧W.cell? ⟨p2,0,none⟩=some (.int .i64 (f:Int))∧W.cell? ⟨eb,0,none⟩=some (.int .i64 yk)∧W.cell? ⟨eb,1,none⟩=some (.int .i64 yn)∧W.cell? ⟨eb,2,none⟩=some (.string ys)∧W.cell? ⟨eb,3,none⟩=some (.int .i64 yo)∧W.cell? ⟨eb,4,none⟩=some (.slice Aa ya ca)∧W.cell? ⟨eb,5,none⟩=some (.slice B5 yb cb5))) (by kernel_rfl) ?_ (fun hHeld=>?_)
   · exact⟨u0,u1,u2,v0,v1,v2,v3,v4,v5⟩
   refine wpAnyH_take (i:=0) (oi:=?oi27) (v:=rp b) ?h1x27 (by kernel_rfl) ?h3x27 (by kernel_rfl) ?h5x27 (Or.inl ⟨?h6x27,?h7x27⟩) hHeld ?h8x27
   case h1x27=>
    simp only [Ya,Yb,Yc];rfl
   case h3x27=>kernel_rfl
   case h5x27=>exact fun _ _ _ h=>h
   case h6x27=>rfl
   case h7x27=>
    intro W hSW
    (try dsimp only at hSW)
    go_split_ands
    first | (go_simp;done) | (go_simp;with_reducible rfl)
   (try simp only [Act.put,Yd,Ye,Yf])
   refine wpAnyH_take (i:=1) (oi:=?oi28) (v:=rp b) ?h1x28 (by kernel_rfl) ?h3x28 (by kernel_rfl) ?h5x28 (Or.inl ⟨?h6x28,?h7x28⟩) hHeld ?h8x28
   case h1x28=>
    simp only [Ya,Yb,Yc];rfl
   case h3x28=>kernel_rfl
   case h5x28=>exact fun _ _ _ h=>h
   case h6x28=>rfl
   case h7x28=>
    intro W hSW
    (try dsimp only at hSW)
    go_split_ands
    first | (go_simp;done) | (go_simp;with_reducible rfl)
   (try simp only [Act.put,Yd,Ye,Yf])
   refine wpAnyH_take (i:=2) (oi:=?oi29) (v:=rp b) ?h1x29 (by kernel_rfl) ?h3x29 (by kernel_rfl) ?h5x29 (Or.inl ⟨?h6x29,?h7x29⟩) hHeld ?h8x29
   case h1x29=>
    simp only [Ya,Yb,Yc];rfl
   case h3x29=>kernel_rfl
   case h5x29=>exact fun _ _ _ h=>h
   case h6x29=>rfl
   case h7x29=>
    intro W hSW
    (try dsimp only at hSW)
    go_split_ands
    first | (go_simp;done) | (go_simp;with_reducible rfl)
   (try simp only [Act.put,Yd,Ye,Yf])
   refine wpAnyH_take (i:=3) (oi:=?oi30) (v:=.pointer (some ⟨b,3,none⟩)) ?h1x30 (by kernel_rfl) ?h3x30 (by kernel_rfl) ?h5x30 (Or.inl ⟨?h6x30,?h7x30⟩) hHeld ?h8x30
   case h1x30=>
    simp only [Ya,Yb,Yc];rfl
   case h3x30=>kernel_rfl
   case h5x30=>exact fun _ _ _ h=>h
   case h6x30=>rfl
   case h7x30=>
    intro W hSW
    (try dsimp only at hSW)
    go_split_ands
    first | (go_simp;done) | (go_simp;with_reducible rfl)
   (try simp only [Act.put,Yd,Ye,Yf])
   refine wpAnyH_take (i:=5) (oi:=?oi31) (v:=.int .i64 (f:Int)) ?h1x31 (by kernel_rfl) ?h3x31 (by kernel_rfl) ?h5x31 (Or.inl ⟨?h6x31,?h7x31⟩) hHeld ?h8x31
   case h1x31=>
    simp only [Ya,Yb,Yc];rfl
   case h3x31=>kernel_rfl
   case h5x31=>exact fun _ _ _ h=>h
   case h6x31=>rfl
   case h7x31=>
    intro W hSW
    (try dsimp only at hSW)
    go_split_ands
    first | (go_simp;done) | (go_simp;with_reducible rfl)
   (try simp only [Act.put,Yd,Ye,Yf])
   refine wpAnyH_take (i:=7) (oi:=?oi32) (v:=rp eb) ?h1x32 (by kernel_rfl) ?h3x32 (by kernel_rfl) ?h5x32 (Or.inl ⟨?h6x32,?h7x32⟩) hHeld ?h8x32
   case h1x32=>
    simp only [Ya,Yb,Yc];rfl
   case h3x32=>kernel_rfl
   case h5x32=>exact fun _ _ _ h=>h
   case h6x32=>rfl
   case h7x32=>
    intro W hSW
    (try dsimp only at hSW)
    go_split_ands
    first | (go_simp;done) | (go_simp;with_reducible rfl)
   (try simp only [Act.put,Yd,Ye,Yf])
   refine wpAnyH_take (i:=8) (oi:=?oi33) (v:=rp eb) ?h1x33 (by kernel_rfl) ?h3x33 (by kernel_rfl) ?h5x33 (Or.inl ⟨?h6x33,?h7x33⟩) hHeld ?h8x33
   case h1x33=>
    simp only [Ya,Yb,Yc];rfl
   case h3x33=>kernel_rfl
   case h5x33=>exact fun _ _ _ h=>h
   case h6x33=>rfl
   case h7x33=>
    intro W hSW
    (try dsimp only at hSW)
    go_split_ands
    first | (go_simp;done) | (go_simp;with_reducible rfl)
   (try simp only [Act.put,Yd,Ye,Yf])
   refine wpAnyH_take (i:=9) (oi:=?oi34) (v:=.agg #[.int .i64 yk,.int .i64 yn,.string ys,.int .i64 yo,.slice Aa ya ca,.slice B5 yb cb5]) ?h1x34 (by kernel_rfl) ?h3x34 (by kernel_rfl) ?h5x34 (Or.inl ⟨?h6x34,?h7x34⟩) hHeld ?h8x34
   case h1x34=>
    simp only [Ya,Yb,Yc];rfl
   case h3x34=>kernel_rfl
   case h5x34=>exact fun _ _ _ h=>h
   case h6x34=>rfl
   case h7x34=>
    intro W hSW
    (try dsimp only at hSW)
    go_split_ands
    first | (go_simp;done) | (go_simp;with_reducible rfl)
   (try simp only [Act.put,Yd,Ye,Yf])
   refine wpAnyH_ready (rs:=[4,10]) (by kernel_rfl) (by simp) ?_;refine AllReadyH.cons (by rfl) (fun K hK=>?_) ?_
   · go_simp
     refine hK.out _ _ ?_ (fun hHeld=>?_)
     · exact⟨u0,u1,u2,v0,v1,v2,v3,v4,v5⟩
     clear hK K
     (try simp only [Act.put,Yd,Ye,Yf])
     refine wpAnyH_take (i:=6) (oi:=?oi35) (v:=.slice A3 f cp) ?h1x35 (by kernel_rfl) ?h3x35 (by kernel_rfl) ?h5x35 (Or.inl ⟨?h6x35,?h7x35⟩) hHeld ?h8x35
     case h1x35=>
      simp only [Ya,Yb,Yc];rfl
     case h3x35=>kernel_rfl
     case h5x35=>exact fun _ _ _ h=>h
     case h6x35=>rfl
     case h7x35=>
      intro W hSW
      (try dsimp only at hSW)
      go_split_ands
      first | (go_simp;done) | (go_simp;with_reducible rfl)
     (try simp only [Act.put,Yd,Ye,Yf])
     refine wpAnyH_ready (rs:=[10]) (by kernel_rfl) (by simp) ?_;refine AllReadyH.cons (by rfl) (fun K hK=>?_) ?_
     · go_simp
       refine hK.out _ _ ?_ (fun hHeld=>?_)
       · exact⟨(World.cell?_alloc_lt _ _ _ l0).trans u0,(World.cell?_alloc_lt _ _ _ l1).trans u1,(World.cell?_alloc_lt _ _ _ l2).trans u2,(World.cell?_alloc_lt _ _ _ le).trans v0,(World.cell?_alloc_lt _ _ _ le).trans v1,(World.cell?_alloc_lt _ _ _ le).trans v2,(World.cell?_alloc_lt _ _ _ le).trans v3,(World.cell?_alloc_lt _ _ _ le).trans v4,(World.cell?_alloc_lt _ _ _ le).trans v5⟩
       clear hK K
       (try simp only [Act.put,Yd,Ye,Yf])
       refine wpAnyH_ready (rs:=[11]) (by kernel_rfl) (by simp) ?_;refine AllReadyH.cons (by rfl) (fun K hK=>?_) ?_
       · refine step_append_any (by rfl) _ _ _ (by rfl) 0 26 i0 _ 6 88 Tryz.underlying24 hi hz1 hz0 hz2 rfl (by decide) (.slice A3 f cp) f (cs.take (f*6)) (by rfl) (HH5.out _ (by exact((Below.refl _ _).alloc (Nat.le_refl _) _).drew)) (some ⟨w5.heap.size,0,none⟩) 1 1 [.int .i64 yk,.int .i64 yn,.string ys,.int .i64 yo,.slice Aa ya ca,.slice B5 yb cb5] (by rfl) rfl (fun h=>by cases h) HNW.out HON.out (by unfold maxLen;omega) (by omega) (Nat.zero_le _) ?_;intro A6 c6 w6 hown6 hgrow6 hat6;have HG6:=Hd hgrow6;have HOW6:=Hd hown6;have HAT6:=Hd hat6;have HK6:=Hd fun k (hk:k<w5.heap.size) (hn:(Value.slice A3 ps.length cp).ownBlock≠some k)=>(show w6.heap[k]?=w5.heap[k]? from(hgrow6.block k (by simp;omega) (fun e=>hn ((own_eq A3 _ _ _ _).trans e.symm))).trans (heap_alloc_old w5 _ hk));have x0:=(World.cell?_of_block (HK6.out p0 l0 np0)).trans u0;have x1:=(World.cell?_of_block (HK6.out p1 l1 np1)).trans u1;have x2:=(World.cell?_of_block (HK6.out p2 l2 np2)).trans u2;have y0:=(World.cell?_of_block (HK6.out eb le hv.out)).trans v0;have y1:=(World.cell?_of_block (HK6.out eb le hv.out)).trans v1;have y2:=(World.cell?_of_block (HK6.out eb le hv.out)).trans v2;have y3:=(World.cell?_of_block (HK6.out eb le hv.out)).trans v3;have y4:=(World.cell?_of_block (HK6.out eb le hv.out)).trans v4;have y5:=(World.cell?_of_block (HK6.out eb le hv.out)).trans v5;have x3:=(World.cell?_of_block (HK6.out b lb HM5.out.vp_ne)).trans u3;have fz3:w6.frozen? ⟨b,3,none⟩=false:=(World.frozen?_of_block (HK6.out b lb HM5.out.vp_ne)).trans (HM5.out.q.fz 3);clear hown6 hgrow6 hat6;refine hK.out _ _ ?_ (fun hHeld=>?_)
         · exact⟨x0,x1,x2,y0,y1,y2,y3,y4,y5⟩
         clear hK K
         (try simp only [Act.put,Yd,Ye,Yf])
         refine wpAnyH_take (i:=12) (oi:=?oi36) (v:=rp b) ?h1x36 (by kernel_rfl) ?h3x36 (by kernel_rfl) ?h5x36 (Or.inl ⟨?h6x36,?h7x36⟩) hHeld ?h8x36
         case h1x36=>
          simp only [Ya,Yb,Yc];rfl
         case h3x36=>kernel_rfl
         case h5x36=>exact fun _ _ _ h=>h
         case h6x36=>rfl
         case h7x36=>
          intro W hSW
          (try dsimp only at hSW)
          go_split_ands
          first | (go_simp;done) | (go_simp;with_reducible rfl)
         (try simp only [Act.put,Yd,Ye,Yf])
         refine wpAnyH_take (i:=13) (oi:=?oi37) (v:=.pointer (some ⟨b,3,none⟩)) ?h1x37 (by kernel_rfl) ?h3x37 (by kernel_rfl) ?h5x37 (Or.inl ⟨?h6x37,?h7x37⟩) hHeld ?h8x37
         case h1x37=>
          simp only [Ya,Yb,Yc];rfl
         case h3x37=>kernel_rfl
         case h5x37=>exact fun _ _ _ h=>h
         case h6x37=>rfl
         case h7x37=>
          intro W hSW
          (try dsimp only at hSW)
          go_split_ands
          first | (go_simp;done) | (go_simp;with_reducible rfl)
         (try simp only [Act.put,Yd,Ye,Yf])
         refine wpAnyH_ready (rs:=[14]) (by kernel_rfl) (by simp) ?_;refine AllReadyH.cons (by rfl) (fun K hK=>?_) ?_
         · go_simp
           refine hK.out _ _ ?_ (fun hHeld=>?_)
           · exact⟨(cell_sc _ _ nb0).trans x0,(cell_sc _ _ nb1).trans x1,(cell_sc _ _ nb2).trans x2,(cell_sc _ _ hs1).trans y0,(cell_sc _ _ hs1).trans y1,(cell_sc _ _ hs1).trans y2,(cell_sc _ _ hs1).trans y3,(cell_sc _ _ hs1).trans y4,(cell_sc _ _ hs1).trans y5⟩
           clear hK K
           (try simp only [Act.put,Yd,Ye,Yf])
           refine wpAnyH_done (by kernel_rfl) ?_ _
           go_wp2_with fail
           go_end0
           show Turn w b A n c all va st (.slice A3 ps.length cp) L [eb] (.ok ([],madeS _ f ps sz,sz+1) r) _ _
           rw [HMS.out];exact made_parts HM.out HM5.out HT5.out hf HX5.out HF5.out (show Below w5.heap.size w5 (w5.alloc _).drew from((Below.refl _ _).alloc (Nat.le_refl _) _).drew) (by rw [own_eq A3 ps.length cp f cp];exact HG6.out) (by rw [HEX.out];exact HOW6.out) (by rw [own_eq A3 ps.length cp f cp];exact HAT6.out)
         exact AllReadyH.nil
       exact AllReadyH.nil
     exact AllReadyH.nil
   refine AllReadyH.cons (by rfl) (fun K hK=>?_) ?_
   · go_simp
     refine hK.out _ _ ?_ (fun hHeld=>?_)
     · exact⟨(World.cell?_alloc_lt _ _ _ l0).trans u0,(World.cell?_alloc_lt _ _ _ l1).trans u1,(World.cell?_alloc_lt _ _ _ l2).trans u2,(World.cell?_alloc_lt _ _ _ le).trans v0,(World.cell?_alloc_lt _ _ _ le).trans v1,(World.cell?_alloc_lt _ _ _ le).trans v2,(World.cell?_alloc_lt _ _ _ le).trans v3,(World.cell?_alloc_lt _ _ _ le).trans v4,(World.cell?_alloc_lt _ _ _ le).trans v5⟩
     clear hK K
     (try simp only [Act.put,Yd,Ye,Yf])
     refine wpAnyH_ready (rs:=[4]) (by kernel_rfl) (by simp) ?_;refine AllReadyH.cons (by rfl) (fun K hK=>?_) ?_
     · go_simp
       refine hK.out _ _ ?_ (fun hHeld=>?_)
       · exact⟨(World.cell?_alloc_lt _ _ _ l0).trans u0,(World.cell?_alloc_lt _ _ _ l1).trans u1,(World.cell?_alloc_lt _ _ _ l2).trans u2,(World.cell?_alloc_lt _ _ _ le).trans v0,(World.cell?_alloc_lt _ _ _ le).trans v1,(World.cell?_alloc_lt _ _ _ le).trans v2,(World.cell?_alloc_lt _ _ _ le).trans v3,(World.cell?_alloc_lt _ _ _ le).trans v4,(World.cell?_alloc_lt _ _ _ le).trans v5⟩
       clear hK K
       (try simp only [Act.put,Yd,Ye,Yf])
       refine wpAnyH_take (i:=6) (oi:=?oi38) (v:=.slice A3 f cp) ?h1x38 (by kernel_rfl) ?h3x38 (by kernel_rfl) ?h5x38 (Or.inl ⟨?h6x38,?h7x38⟩) hHeld ?h8x38
       case h1x38=>
        simp only [Ya,Yb,Yc];rfl
       case h3x38=>kernel_rfl
       case h5x38=>exact fun _ _ _ h=>h
       case h6x38=>rfl
       case h7x38=>
        intro W hSW
        (try dsimp only at hSW)
        go_split_ands
        first | (go_simp;done) | (go_simp;with_reducible rfl)
       (try simp only [Act.put,Yd,Ye,Yf])
       refine wpAnyH_ready (rs:=[11]) (by kernel_rfl) (by simp) ?_;refine AllReadyH.cons (by rfl) (fun K hK=>?_) ?_
       · refine step_append_any (by rfl) _ _ _ (by rfl) 0 26 i0 _ 6 88 Tryz.underlying24 hi hz1 hz0 hz2 rfl (by decide) (.slice A3 f cp) f (cs.take (f*6)) (by rfl) (HH5.out _ (by exact((Below.refl _ _).alloc (Nat.le_refl _) _).drew)) (some ⟨w5.heap.size,0,none⟩) 1 1 [.int .i64 yk,.int .i64 yn,.string ys,.int .i64 yo,.slice Aa ya ca,.slice B5 yb cb5] (by rfl) rfl (fun h=>by cases h) HNW.out HON.out (by unfold maxLen;omega) (by omega) (Nat.zero_le _) ?_;intro A6 c6 w6 hown6 hgrow6 hat6;have HG6:=Hd hgrow6;have HOW6:=Hd hown6;have HAT6:=Hd hat6;have HK6:=Hd fun k (hk:k<w5.heap.size) (hn:(Value.slice A3 ps.length cp).ownBlock≠some k)=>(show w6.heap[k]?=w5.heap[k]? from(hgrow6.block k (by simp;omega) (fun e=>hn ((own_eq A3 _ _ _ _).trans e.symm))).trans (heap_alloc_old w5 _ hk));have x0:=(World.cell?_of_block (HK6.out p0 l0 np0)).trans u0;have x1:=(World.cell?_of_block (HK6.out p1 l1 np1)).trans u1;have x2:=(World.cell?_of_block (HK6.out p2 l2 np2)).trans u2;have y0:=(World.cell?_of_block (HK6.out eb le hv.out)).trans v0;have y1:=(World.cell?_of_block (HK6.out eb le hv.out)).trans v1;have y2:=(World.cell?_of_block (HK6.out eb le hv.out)).trans v2;have y3:=(World.cell?_of_block (HK6.out eb le hv.out)).trans v3;have y4:=(World.cell?_of_block (HK6.out eb le hv.out)).trans v4;have y5:=(World.cell?_of_block (HK6.out eb le hv.out)).trans v5;have x3:=(World.cell?_of_block (HK6.out b lb HM5.out.vp_ne)).trans u3;have fz3:w6.frozen? ⟨b,3,none⟩=false:=(World.frozen?_of_block (HK6.out b lb HM5.out.vp_ne)).trans (HM5.out.q.fz 3);clear hown6 hgrow6 hat6;refine hK.out _ _ ?_ (fun hHeld=>?_)
         · exact⟨x0,x1,x2,y0,y1,y2,y3,y4,y5⟩
         clear hK K
         (try simp only [Act.put,Yd,Ye,Yf])
         refine wpAnyH_take (i:=12) (oi:=?oi39) (v:=rp b) ?h1x39 (by kernel_rfl) ?h3x39 (by kernel_rfl) ?h5x39 (Or.inl ⟨?h6x39,?h7x39⟩) hHeld ?h8x39
         case h1x39=>
          simp only [Ya,Yb,Yc];rfl
         case h3x39=>kernel_rfl
         case h5x39=>exact fun _ _ _ h=>h
         case h6x39=>rfl
         case h7x39=>
          intro W hSW
          (try dsimp only at hSW)
          go_split_ands
          first | (go_simp;done) | (go_simp;with_reducible rfl)
         (try simp only [Act.put,Yd,Ye,Yf])
         refine wpAnyH_take (i:=13) (oi:=?oi40) (v:=.pointer (some ⟨b,3,none⟩)) ?h1x40 (by kernel_rfl) ?h3x40 (by kernel_rfl) ?h5x40 (Or.inl ⟨?h6x40,?h7x40⟩) hHeld ?h8x40
         case h1x40=>
          simp only [Ya,Yb,Yc];rfl
         case h3x40=>kernel_rfl
         case h5x40=>exact fun _ _ _ h=>h
         case h6x40=>rfl
         case h7x40=>
          intro W hSW
          (try dsimp only at hSW)
          go_split_ands
          first | (go_simp;done) | (go_simp;with_reducible rfl)
         (try simp only [Act.put,Yd,Ye,Yf])
         refine wpAnyH_ready (rs:=[14]) (by kernel_rfl) (by simp) ?_;refine AllReadyH.cons (by rfl) (fun K hK=>?_) ?_
         · go_simp
           refine hK.out _ _ ?_ (fun hHeld=>?_)
           · exact⟨(cell_sc _ _ nb0).trans x0,(cell_sc _ _ nb1).trans x1,(cell_sc _ _ nb2).trans x2,(cell_sc _ _ hs1).trans y0,(cell_sc _ _ hs1).trans y1,(cell_sc _ _ hs1).trans y2,(cell_sc _ _ hs1).trans y3,(cell_sc _ _ hs1).trans y4,(cell_sc _ _ hs1).trans y5⟩
           clear hK K
           (try simp only [Act.put,Yd,Ye,Yf])
           refine wpAnyH_done (by kernel_rfl) ?_ _
           go_wp2_with fail
           go_end0
           show Turn w b A n c all va st (.slice A3 ps.length cp) L [eb] (.ok ([],madeS _ f ps sz,sz+1) r) _ _
           rw [HMS.out];exact made_parts HM.out HM5.out HT5.out hf HX5.out HF5.out (show Below w5.heap.size w5 (w5.alloc _).drew from((Below.refl _ _).alloc (Nat.le_refl _) _).drew) (by rw [own_eq A3 ps.length cp f cp];exact HG6.out) (by rw [HEX.out];exact HOW6.out) (by rw [own_eq A3 ps.length cp f cp];exact HAT6.out)
         exact AllReadyH.nil
       exact AllReadyH.nil
     exact AllReadyH.nil
   exact AllReadyH.nil
end
end
end Go.Proofs.YtokiaaapgkdpmaaGreatDoor
