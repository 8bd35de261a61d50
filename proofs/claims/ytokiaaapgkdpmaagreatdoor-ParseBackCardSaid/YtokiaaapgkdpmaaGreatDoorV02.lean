/- Parts of the proof: LxM, ExA, ExP, ExF, ArY. Conditions: each theorem's own. -/
import Derived.Lib.ParseIntB
import Derived.Deep.DeepCutAuto
import Derived.Lib.QuietBelow
import Derived.Maps.AppendAt
import Derived.Laws.OwnMore
import Derived.Test.YtokiaaapgkdpmaaGreatDoorV01
namespace Go.Proofs.YtokiaaapgkdpmaaGreatDoor
set_option linter.unusedVariables false
set_option linter.unusedSimpArgs false
set_option maxRecDepth 100000
set_option maxHeartbeats 40000000
section
def letB(n:Int):Bool:=smallB n || greatB n
def spaceB(c:UInt8):Bool:=c==9 || c==10 || c==13 || c==32
def lineL(l:List UInt8):List UInt8:=l.takeWhile fun c=>c != 10
def blankN(l:List UInt8):Nat:=
 if [45,45].isPrefixOf l=true then(lineL l).length else match l with
  | []=>0
  | c::_=>if spaceB c=true then 1 else 0
def nameL(l:List UInt8):List UInt8:=l.takeWhile fun c=>nameC (c.toNat:Int)
def digL(l:List UInt8):List UInt8:=l.takeWhile fun c=>digitB (c.toNat:Int)
def quotL(l:List UInt8):List UInt8:=l.takeWhile fun c=>c != 39
def decV(l:List UInt8):Nat:=l.foldl (fun a c=>a*10+(c.toNat-48)) 0
def marksL:List (List UInt8):=[[58,61],[45,62],[60,61],[62,61],[60,62],[40],[41],[123],[125],[91],[93],[44],[59],[58],[61],[60],[62],[43],[45],[42],[47]]
def markL(l:List UInt8):Option (List UInt8):=marksL.find? fun m=>m.isPrefixOf l
structure Tk where
 k:Int
 s:List UInt8
 n:Int
 a:Nat
instance :Inhabited Tk:=⟨⟨0,[],0,0⟩⟩
def nameT(l:List UInt8):Option (Tk × Nat):=
 if(lowB (nameL l) || wordB (nameL l))=true then some (⟨1,nameL l,0,0⟩,(nameL l).length)
 else if highB (nameL l)=true then some (⟨2,nameL l,0,0⟩,(nameL l).length) else none
def numT(l:List UInt8):Option (Tk × Nat):=
 if(1<(digL l).length∧l.head?=some 48)∨9223372036854775807<decV (digL l) then none
 else some (⟨3,digL l,decV (digL l),0⟩,(digL l).length)
def pathT(l:List UInt8):Option (Tk × Nat):=
 if(quotL l).length<l.length∧pathB (quotL l)=true then some (⟨4,quotL l,0,0⟩,(quotL l).length+2) else none
def markT(l:List UInt8):Option (Tk × Nat):=(markL l).map fun m=>(⟨5,m,0,0⟩,m.length)
def tokL:List UInt8→Option (Tk × Nat)
 | []=>none
 | c::l=>if letB (c.toNat:Int)=true then nameT (c::l) else if digitB (c.toNat:Int)=true then numT (c::l) else if c=39 then pathT l else markT (c::l)
theorem tok_cons(c:UInt8) (l:List UInt8):tokL (c::l)=if letB (c.toNat:Int)=true then nameT (c::l) else if digitB (c.toNat:Int)=true then numT (c::l) else if c=39 then pathT l else markT (c::l):=rfl
theorem tw_le{p:UInt8→Bool}(l:List UInt8):(l.takeWhile p).length≤l.length:=(List.takeWhile_prefix p).length_le
theorem tw_take{p:UInt8→Bool}(l:List UInt8):l.takeWhile p=l.take (l.takeWhile p).length:=by
 have h:=List.takeWhile_prefix (l:=l) p;exact(List.prefix_iff_eq_take.1 h)
theorem tw_pos{p:UInt8→Bool}{c:UInt8}{l:List UInt8}(h:p c=true):0<((c::l).takeWhile p).length:=by
 simp [List.takeWhile_cons,h]
theorem tw_eq{p:UInt8→Bool}:∀ {a l:List UInt8},(∀ c∈a,p c=true)→(l=a∨∃ c b,l=a++c::b∧p c=false)→l.takeWhile p=a
 | [],l,_,h=>by
  rcases h with rfl | ⟨c,b,rfl,hc⟩
  · rfl
  · simp [List.takeWhile_cons,hc]
 | x::a,l,ha,h=>by
  have hx:=ha x (by simp);have ih:=fun l h=>tw_eq (a:=a) (l:=l) (fun c hc=>ha c (by simp [hc])) h;rcases h with rfl | ⟨c,b,rfl,hc⟩
  · simp [List.takeWhile_cons,hx,ih a (.inl rfl)]
  · simp [List.takeWhile_cons,hx,ih _ (.inr ⟨c,b,rfl,hc⟩)]
theorem tw_all{p:UInt8→Bool}:∀ (l:List UInt8),∀ c∈l.takeWhile p,p c=true
 | [],c,h=>by simp at h
 | x::l,c,h=>by
  cases hx:p x with
  | false=>simp [List.takeWhile_cons,hx] at h
  | true=>
   simp only [List.takeWhile_cons,hx,if_true,List.mem_cons] at h;rcases h with rfl | h
   · exact hx
   · exact tw_all l c h
theorem mark_mem{l m:List UInt8}(h:markL l=some m):m∈marksL∧m.isPrefixOf l=true:=by
 unfold markL at h;have h2:=List.find?_some h;exact⟨List.mem_of_find?_eq_some h,h2⟩
theorem mark_pos{l m:List UInt8}(h:markL l=some m):0<m.length∧m.length≤l.length∧m=l.take m.length:=by
 obtain⟨h1,h2⟩:=mark_mem h;have h3:∀ m∈marksL,0<m.length:=by decide
 rw [List.isPrefixOf_iff_prefix] at h2;exact⟨h3 m h1,h2.length_le,List.prefix_iff_eq_take.1 h2⟩
def Tk.w(t:Tk):Nat:=t.s.length+(if t.k=4 then 2 else 0)
theorem tok_ok{l:List UInt8}{t:Tk}{z:Nat}(h:tokL l=some (t,z)):
 0<z∧z≤l.length∧t.w=z∧t.k≠6∧t.a=0∧(t.k≠4→t.s=l.take z):=by
 cases l with
 | nil=>cases h
 | cons c l=>
  rw [tok_cons] at h
  by_cases h1:letB (c.toNat:Int)=true
  · rw [if_pos h1] at h
    have hn:nameC (c.toNat:Int)=true:=by
     simp only [letB,Bool.or_eq_true] at h1;rcases h1 with h1 | h1 <;> simp [nameC,h1]
    have hp:0<(nameL (c::l)).length:=tw_pos (p:=fun c=>nameC (c.toNat:Int)) hn;have hle:(nameL (c::l)).length≤(c::l).length:=tw_le _;have ht:nameL (c::l)=(c::l).take (nameL (c::l)).length:=tw_take _;unfold nameT at h
    split at h
    · cases h;exact⟨hp,hle,by simp [Tk.w],by simp,rfl,fun _=>ht⟩
    · split at h
      · cases h;exact⟨hp,hle,by simp [Tk.w],by simp,rfl,fun _=>ht⟩
      · cases h
  · rw [if_neg h1] at h
    by_cases h2:digitB (c.toNat:Int)=true
    · rw [if_pos h2] at h;have hp:0<(digL (c::l)).length:=tw_pos (p:=fun c=>digitB (c.toNat:Int)) h2;have hle:(digL (c::l)).length≤(c::l).length:=tw_le _;have ht:digL (c::l)=(c::l).take (digL (c::l)).length:=tw_take _;unfold numT at h
      split at h
      · cases h
      · cases h;exact⟨hp,hle,by simp [Tk.w],by simp,rfl,fun _=>ht⟩
    · rw [if_neg h2] at h
      by_cases h3:c=39
      · rw [if_pos h3] at h;unfold pathT at h
        split at h
        · rename_i hh
          cases h
          exact⟨by omega,by simp;omega,by simp [Tk.w],by simp,rfl,fun h=>absurd rfl h⟩
        · cases h
      · rw [if_neg h3] at h;unfold markT at h
        cases hm:markL (c::l) with
        | none=>rw [hm] at h;cases h
        | some m=>
         rw [hm] at h;obtain⟨p1,p2,p3⟩:=mark_pos hm
         cases h
         exact⟨p1,p2,by simp [Tk.w],by simp,rfl,fun _=>p3⟩
theorem blank_le(l:List UInt8):blankN l≤l.length:=by
 unfold blankN
 split
 · exact tw_le _
 · split
   · exact Nat.zero_le _
   · split <;> simp
def lexL(a:Nat) (l:List UInt8):List Tk × Option Nat:=
 if h:l=[] then([],none)
 else if hb:0<blankN l then lexL (a+blankN l) (l.drop (blankN l))
 else match tokL l with
  | none=>([],some a)
  | some (t,z)=>if hz:0<z then({ t with a:=a }::(lexL (a+z) (l.drop z)).1,(lexL (a+z) (l.drop z)).2) else([],some a)
termination_by l.length
decreasing_by
 all_goals
  have:=List.length_pos_iff.2 h;simp only [List.length_drop];omega
theorem lex_nil(a:Nat):lexL a []=([],none):=by unfold lexL;simp
theorem lex_blank{a:Nat}{l:List UInt8}(hb:0<blankN l):lexL a l=lexL (a+blankN l) (l.drop (blankN l)):=by
 have h:l≠[]:=fun e=>by subst e;revert hb;decide
 rw [lexL]
 simp [h,hb]
theorem lex_bad{a:Nat}{l:List UInt8}(h:l≠[]) (hb:blankN l=0) (ht:tokL l=none):lexL a l=([],some a):=by
 rw [lexL]
 simp [h,hb,ht]
theorem lex_tok{a z:Nat}{l:List UInt8}{t:Tk}(hb:blankN l=0) (ht:tokL l=some (t,z)):
 lexL a l=({ t with a:=a }::(lexL (a+z) (l.drop z)).1,(lexL (a+z) (l.drop z)).2):=by
 have h:l≠[]:=fun e=>by subst e;cases ht
 rw [lexL]
 simp [h,hb,ht,(tok_ok ht).1]
theorem lex_ind{P:Nat→List UInt8→Prop}(hn:∀ a,P a []) (hb:∀ a l,l≠[]→0<blankN l→P (a+blankN l) (l.drop (blankN l))→P a l)
 (hx:∀ a l,l≠[]→blankN l=0→tokL l=none→P a l) (ht:∀ a l t z,l≠[]→blankN l=0→tokL l=some (t,z)→P (a+z) (l.drop z)→P a l):
 ∀ n a l,l.length≤n→P a l
 | 0,a,l,h=>by
  obtain rfl:l=[]:=List.eq_nil_of_length_eq_zero (by omega);exact hn a
 | n+1,a,l,h=>by
  by_cases h0:l=[]
  · subst h0;exact hn a
  · have hl:=List.length_pos_iff.2 h0;rcases Nat.eq_zero_or_pos (blankN l) with h1 | h1
    · cases h2:tokL l with
      | none=>exact hx a l h0 h1 h2
      | some x=>
       obtain⟨t,z⟩:=x;refine ht a l t z h0 h1 h2 (lex_ind hn hb hx ht n _ _ ?_);have:=(tok_ok h2).1;simp only [List.length_drop];omega
    · refine hb a l h0 h1 (lex_ind hn hb hx ht n _ _ ?_);simp only [List.length_drop];omega
def Tk.up(d:Nat) (t:Tk):Tk:={ t with a:=t.a+d }
def Runs(s:List UInt8):Nat→List Tk→Prop
 | at_,[]=>at_≤s.length
 | at_,t::ts=>at_≤t.a∧t.a+t.w≤s.length∧t.k≠6∧(t.k≠4→t.s=(s.drop t.a).take t.w)∧Runs s (t.a+t.w) ts
def endAt(ts:List Tk):Nat→Nat
 | 0=>0
 | i+1=>(ts[i]?.getD default).a+(ts[i]?.getD default).w
theorem Runs.at_{s:List UInt8}:∀ {ts:List Tk}{b:Nat},Runs s b ts→∀ i,i<ts.length →
 (if i=0 then b else endAt ts i)≤(ts[i]?.getD default).a∧(ts[i]?.getD default).a+(ts[i]?.getD default).w≤s.length∧(ts[i]?.getD default).k≠6 ∧
  ((ts[i]?.getD default).k≠4→(ts[i]?.getD default).s=(s.drop (ts[i]?.getD default).a).take (ts[i]?.getD default).w)
 | [],b,h,i,hi=>by simp at hi
 | t::ts,b,h,0,hi=>⟨h.1,h.2.1,h.2.2.1,h.2.2.2.1⟩
 | t::ts,b,h,i+1,hi=>by
  have ih:=Runs.at_ h.2.2.2.2 i (by simpa using hi);simp only [List.getElem?_cons_succ];refine⟨?_,ih.2⟩;have h1:=ih.1
  cases i with
  | zero=>simpa [endAt] using h1
  | succ j=>simpa [endAt] using h1
theorem Runs.end_{s:List UInt8}{ts:List Tk}{b:Nat}(h:Runs s b ts):endAt ts ts.length≤s.length:=by
 cases e:ts.length with
 | zero=>exact Nat.zero_le _
 | succ n=>exact(h.at_ n (by omega)).2.1
theorem decV_snoc(l:List UInt8) (c:UInt8):decV (l++[c])=decV l*10+(c.toNat-48):=by simp [decV]
theorem dec_up(l:List UInt8):∀ a b:Nat,a≤b→l.foldl (fun a c=>a*10+(c.toNat-48)) a≤l.foldl (fun a c=>a*10+(c.toNat-48)) b∧a≤l.foldl (fun a c=>a*10+(c.toNat-48)) b:=by
 induction l with
 | nil=>intro a b h;exact⟨h,h⟩
 | cons c l ih=>
  intro a b h;simp only [List.foldl_cons];refine⟨(ih _ _ (by omega)).1,Nat.le_trans ?_ (ih _ _ (Nat.le_refl _)).2⟩;omega
theorem digit_nat{c:UInt8}(h:digitB (c.toNat:Int)=true):48≤c.toNat∧c.toNat≤57:=by
 simp [digitB] at h
 omega
theorem parseM(l:List UInt8):∀ acc:Nat,(∀ c∈l,digitB (c.toNat:Int)=true) →
 Lib.parseUintM (2 ^ 64-1) acc l=.ok (l.foldl (fun a c=>a*10+(c.toNat-48)) acc) ∨
 (Lib.parseUintM (2 ^ 64-1) acc l=.range∧18446744073709551616≤l.foldl (fun a c=>a*10+(c.toNat-48)) acc):=by
 induction l with
 | nil=>intro acc _;exact .inl rfl
 | cons c l ih=>
  intro acc hd;have hc:=digit_nat (hd c (by simp));simp only [List.foldl_cons];unfold Lib.parseUintM;rw [if_pos hc];have hu:=(dec_up l (acc*10+(c.toNat-48)) _ (Nat.le_refl _)).2
  by_cases h1:1844674407370955162≤acc
  · rw [if_pos h1];exact .inr ⟨rfl,by omega⟩
  · rw [if_neg h1]
    by_cases h2:2 ^ 64-1<acc*10+(c.toNat-48)
    · rw [if_pos h2];exact .inr ⟨rfl,by omega⟩
    · rw [if_neg h2];exact ih _ fun c hc=>hd c (by simp [hc])
theorem parse_digits{l:List UInt8}(h0:l≠[]) (hd:∀ c∈l,digitB (c.toNat:Int)=true):
 Lib.parseIntB 64 l=if 9223372036854775807<decV l then .range else .ok (decV l:Int):=by
 cases l with
 | nil=>exact absurd rfl h0
 | cons c l=>
  have hc:=digit_nat (hd c (by simp));have h43:¬ (c.toNat=43∨c.toNat=45):=by omega
  have h45:¬ c.toNat=45:=by omega
  unfold Lib.parseIntB;simp only [if_neg h43];unfold Lib.parseUintB;rw [if_neg (by simp)];have e:decV (c::l)=(c::l).foldl (fun a c=>a*10+(c.toNat-48)) 0:=rfl;rcases parseM (c::l) 0 hd with h | ⟨h,h2⟩
  · rw [h,← e]
    by_cases hb:9223372036854775807<decV (c::l)
    · have:(2:Nat) ^ (64-1)≤decV (c::l):=by omega
      simp [h45,hb,this]
    · have:¬ (2:Nat) ^ (64-1)≤decV (c::l):=by omega
      simp [h45,hb,this]
  · rw [h];rw [← e] at h2;have:9223372036854775807<decV (c::l):=by omega
    simp [this]
end
section
open Go.RowKit Go.Sort
theorem box_facts(w:World) (x:Ex) (A:Option Addr) (ca:Nat) (B:Option Addr) (cb:Nat) (w1:World) (h:w.alloc (.cells (exA x A ca B cb) 26)=w1) (hr:rdX w x A B):
 Below w.heap.size w w1∧w.heap.size<w1.heap.size∧rdX w1 x A B∧∀ w',Below w1.heap.size w1 w'→∀ j,w'.cell? ⟨w.heap.size,j,none⟩=(exA x A ca B cb)[j]?:=by
 subst h;refine⟨(Below.refl _ _).alloc (Nat.le_refl _) _,by simp,hr.alloc _,fun w' hb j=>?_⟩;rw [hb.cell (p:=⟨w.heap.size,j,none⟩) (by simp),World.cell?_alloc_new]
theorem refSize:∀ (x:Ex) (A:Option Addr) (ca:Nat) (B:Option Addr) (cb:Nat) (w:World),rdX w x A B→sizeX x≤1000000 →
 Calls Tryz.prog 32 #[.agg (exA x A ca B cb)] w fun e w'=>e=.returned (.int .i64 (sizeX x:Nat))∧Below w.heap.size w w':=by
 refine size_ind fun x ih A ca B cb w hr hs=>?_;have HIH:=Hd ih;have hsz:=sizeX_eq x;have HSZ:=Hd hsz;have hmx:=hr.subs.max;have HF:=Hd fun w1 h=>box_facts w x A ca B cb w1 h hr;have HSN:=Hd fun i (hi:i<x.subs.length)=>sizes_snoc hi;have HLE:=Hd fun i=>sizes_take x.subs i;have HSUB:=Hd fun i (hi:i<x.subs.length)=>size_sub (subX_mem hi);have HTL:=Hd (List.take_length (l:=x.subs));clear ih hr;unfold exA at HF HIH ⊢;generalize hlen:x.subs.length=len at *
 go_enter Tryz.func32,Tryz.ntmps32
 go_upto_region 1 with(fail)
 generalize hw1:w.alloc _=w1;obtain⟨hb1,hg,hr1,hcell⟩:=HF.out w1 hw1;have HC:=Hd hcell;have HB1:=Hd hb1;have HR1:=Hd hr1;clear hcell hb1 hr1 hw1 HF
 go_wp2_with fail
 go_loopw [3,4] (fun s i wr=>∃ k:Nat,k≤len∧i=.int .i64 k∧s=.int .i64 ((1+sizesX (x.subs.take k):Nat):Int)∧Below w1.heap.size w1 wr) (fun _ i _=>len-(intOf i).toNat)
 case atStart=>exact⟨0,Nat.zero_le _,rfl,by simp [sizesX],Below.refl _ _⟩
 case round=>
  obtain⟨k,hk,rfl,rfl,hbw⟩:=hrel;have HBW:=Hd hbw;have hc5:=HC.out wr hbw 5;have hle:=HLE.out k
  by_cases hlt:k<len
  · obtain⟨b,off,rfl,hb,hat⟩:=(HR1.out.below hbw).sub (i:=k) (by omega);obtain⟨A',ca',B',cb',hrg,hrd⟩:=hat k (by omega);obtain⟨c0,c1,c2,c3,c4,c5⟩:=rangeAt_six hrg;have HRD:=Hd hrd;have hsn:=HSN.out k (by omega);have hle2:=HLE.out (k+1);clear hat hbw hrg hrd;have hss:=HSUB.out k (by omega)
    go_wp2_with fail
    refine(HIH.out k (by omega) A' ca' B' cb' _ HRD.out (by omega)).mono ?_;rintro r w2 ⟨rfl,hb2⟩;have HB2:=Hd (HBW.out.trans (hb2.mono HBW.out.size))
    go_wp2_with fail
    go_roundw
    case rel=>refine⟨k+1,by omega,by go_num,?_,HB2.out⟩;rw [hsn];go_num
    case measure=>simp [intOf];omega
  · have hkl:k=len:=by omega
    subst hkl;have HE:=Hd (hlen ▸ HTL.out:x.subs.take k=x.subs)
    go_wp2_with fail
    go_ret
    refine⟨?_,HB1.out.trans (HBW.out.mono (Nat.le_of_lt hg))⟩;rw [HE.out,← HSZ.out];rfl
theorem refDepth:∀ (x:Ex) (A:Option Addr) (ca:Nat) (B:Option Addr) (cb:Nat) (w:World),rdX w x A B→sizeX x≤1000000 →
 Calls Tryz.prog 31 #[.agg (exA x A ca B cb)] w fun e w'=>e=.returned (.int .i64 (depthX x:Nat))∧Below w.heap.size w w':=by
 refine size_ind fun x ih A ca B cb w hr hs=>?_;have HIH:=Hd ih;have HSZ:=Hd (depthX_eq x);have hds:=depth_size x;have hsz:=depthX_eq x;have hmx:=hr.subs.max;have HF:=Hd fun w1 h=>box_facts w x A ca B cb w1 h hr;have HSN:=Hd fun i (hi:i<x.subs.length)=>depths_snoc hi;have HSUB:=Hd fun i (hi:i<x.subs.length)=>(size_sub (subX_mem hi));have HDS:=Hd fun i=>depth_size (subX x i);have HTL:=Hd (List.take_length (l:=x.subs));clear ih hr;unfold exA at HF HIH ⊢;generalize hlen:x.subs.length=len at *
 go_enter Tryz.func31,Tryz.ntmps31
 go_upto_region 1 with(fail)
 generalize hw1:w.alloc _=w1;obtain⟨hb1,hg,hr1,hcell⟩:=HF.out w1 hw1;have HC:=Hd hcell;have HB1:=Hd hb1;have HR1:=Hd hr1;clear hcell hb1 hr1 hw1 HF
 go_wp2_with fail
 go_loopw [3,4] (fun s i wr=>∃ k:Nat,k≤len∧i=.int .i64 k∧s=.int .i64 ((depthsX (x.subs.take k):Nat):Int)∧Below w1.heap.size w1 wr) (fun _ i _=>len-(intOf i).toNat)
 case atStart=>exact⟨0,Nat.zero_le _,rfl,by simp [depthsX],Below.refl _ _⟩
 case round=>
  obtain⟨k,hk,rfl,rfl,hbw⟩:=hrel;have HBW:=Hd hbw;have hc5:=HC.out wr hbw 5
  by_cases hlt:k<len
  · obtain⟨b,off,rfl,hb,hat⟩:=(HR1.out.below hbw).sub (i:=k) (by omega);obtain⟨A',ca',B',cb',hrg,hrd⟩:=hat k (by omega);obtain⟨c0,c1,c2,c3,c4,c5⟩:=rangeAt_six hrg;have HRD:=Hd hrd;have HSNK:=Hd (HSN.out k (by omega));clear hat hbw hrg hrd;have hss:=HSUB.out k (by omega)
    go_wp2_with fail
    refine(HIH.out k (by omega) A' ca' B' cb' _ HRD.out (by omega)).mono ?_;rintro r w2 ⟨rfl,hb2⟩;have HB2:=Hd (HBW.out.trans (hb2.mono HBW.out.size));clear hb2
    go_wp2_with fail
    go_roundw
    case rel=>
     refine⟨k+1,by omega,by go_num,?_,HB2.out⟩;rw [HSNK.out]
     first | rfl | (congr 1;omega) | (simp;done) | skip
    case measure=>simp [intOf];omega
  · have hkl:k=len:=by omega
    subst hkl;have HE:=Hd (hlen ▸ HTL.out:x.subs.take k=x.subs);rw [HE.out];generalize depthsX x.subs=d at *
    go_wp2_with fail
    go_ret
    refine⟨?_,HB1.out.trans (HBW.out.mono HB1.out.size)⟩;rw [HSZ.out];rfl
theorem refCount:∀ (x:Ex) (A:Option Addr) (ca:Nat) (B:Option Addr) (cb:Nat) (w:World) ,rdX w x A B→∀ left:Nat,left≤1000000 →
 Calls Tryz.prog 34 #[.agg (exA x A ca B cb),.int .i64 left] w fun e w'=>e=.returned (.int .i64 (left-sizeX x:Nat))∧Below w.heap.size w w':=by
 refine size_ind fun x ih A ca B cb w hr left hs=>?_;have HIH:=Hd fun i hi A ca B cb w h l hl=>ih i hi A ca B cb w h l hl;have hsz:=sizeX_eq x;have HSZ:=Hd hsz;have hmx:=hr.subs.max;have HF:=Hd fun w1 h=>box_facts w x A ca B cb w1 h hr;have HSN:=Hd fun i (hi:i<x.subs.length)=>sizes_snoc hi;have HLE:=Hd fun i=>sizes_take x.subs i;have HTL:=Hd (List.take_length (l:=x.subs));clear ih hr;unfold exA at HF HIH ⊢;generalize hlen:x.subs.length=len at *
 by_cases h0:left=0
 · subst h0
   go_enter Tryz.func34,Tryz.ntmps34
   go_upto_region 1 with(fail)
   generalize hw1:w.alloc _=w1;obtain⟨hb1,hg,hr1,hcell⟩:=HF.out w1 hw1;have HB1:=Hd hb1;clear hcell hb1 hr1 hw1 HF
   go_wp2_with fail
   go_ret
   refine⟨?_,HB1.out⟩;rw [Nat.zero_sub];rfl
 · obtain⟨l1,rfl⟩:∃ l1,left=l1+1:=⟨left-1,by omega⟩
   go_enter Tryz.func34,Tryz.ntmps34
   go_upto_region 1 with(fail)
   generalize hw1:w.alloc _=w1;obtain⟨hb1,hg,hr1,hcell⟩:=HF.out w1 hw1;have HC:=Hd hcell;have HB1:=Hd hb1;have HR1:=Hd hr1;clear hcell hb1 hr1 hw1 HF
   go_wp2_with fail
   go_loopw [1,5] (fun s i wr=>∃ k:Nat,k≤len∧i=.int .i64 k∧s=.int .i64 ((l1-sizesX (x.subs.take k):Nat):Int)∧Below w1.heap.size w1 wr) (fun _ i _=>len-(intOf i).toNat)
   case atStart=>exact⟨0,Nat.zero_le _,rfl,by simp [sizesX],Below.refl _ _⟩
   case round=>
    obtain⟨k,hk,rfl,rfl,hbw⟩:=hrel;have HBW:=Hd hbw;have hc5:=HC.out wr hbw 5;have hle:=HLE.out k
    by_cases hlt:k<len
    · by_cases hp:l1-sizesX (x.subs.take k)=0
      · rw [hp]
        go_wp2_with fail
        go_ret
        refine⟨?_,HB1.out.trans (HBW.out.mono HB1.out.size)⟩;rw [show l1+1-sizeX x=0 by omega];rfl
      · obtain⟨b,off,rfl,hb,hat⟩:=(HR1.out.below hbw).sub (i:=k) (by omega);obtain⟨A',ca',B',cb',hrg,hrd⟩:=hat k (by omega);obtain⟨c0,c1,c2,c3,c4,c5⟩:=rangeAt_six hrg;have HRD:=Hd hrd;have hsn:=HSN.out k (by omega);have HSNK:=Hd hsn;clear hat hbw hrg hrd;obtain⟨q,hq⟩:∃ q,l1-sizesX (x.subs.take k)=q:=⟨_,rfl⟩;rw [hq];have hq0:0<q:=by omega
        have hql:q≤1000000:=by omega
        have HQ:=Hd hq;clear hq hp hsn hle hsz
        go_wp2_with fail
        refine(HIH.out k (by omega) A' ca' B' cb' _ HRD.out q hql).mono ?_;rintro r w2 ⟨rfl,hb2⟩;have HB2:=Hd (HBW.out.trans (hb2.mono HBW.out.size));clear hb2
        go_wp2_with fail
        go_roundw
        case rel=>
         refine⟨_,_,_,_,_,_,_,_,_,_,_,_,_,_,_,_,_,_,_,_,?_,rfl⟩;refine⟨k+1,by omega,by go_num,?_,HB2.out⟩;have:=HQ.out;rw [HSNK.out,show l1-(sizesX (x.subs.take k)+sizeX (subX x k))=q-sizeX (subX x k) by omega]
        case measure=>simp [intOf];omega
    · have hkl:k=len:=by omega
      subst hkl;have HE:=Hd (hlen ▸ HTL.out:x.subs.take k=x.subs);rw [HE.out];have HA:l1+1-sizeX x=l1-sizesX x.subs:=by omega
      have HA':=Hd HA;generalize l1-sizesX x.subs=d at *;clear HA hle hsz
      go_wp2_with fail
      go_ret
      refine⟨?_,HB1.out.trans (HBW.out.mono HB1.out.size)⟩;rw [HA'.out];rfl
end
section
open Go.RowKit Go.Sort
def flX(w:World):List Ex→List Value→Prop
 | [],cs=>cs=[]
 | x::l,cs=>∃ A ca B cb cs',cs=exL x A ca B cb++cs'∧rdX w x A B∧flX w l cs'
theorem flX_one{w:World}{x:Ex}{A:Option Addr}{ca:Nat}{B:Option Addr}{cb:Nat}(h:rdX w x A B):flX w [x] (exL x A ca B cb):=⟨A,ca,B,cb,[],by simp,h,rfl⟩
theorem flX_app{w:World}:∀ {l l':List Ex}{cs cs':List Value},flX w l cs→flX w l' cs'→flX w (l++l') (cs++cs')
 | [],l',cs,cs',h,h'=>by
  obtain rfl:cs=[]:=h
  simpa using h'
 | x::l,l',cs,cs',h,h'=>by
  obtain⟨A,ca,B,cb,cs1,rfl,h1,h2⟩:=h;exact⟨A,ca,B,cb,cs1++cs',by simp,h1,flX_app h2 h'⟩
theorem flX_len{w:World}:∀ {l:List Ex}{cs:List Value},flX w l cs→cs.length=l.length*6
 | [],cs,h=>by
  obtain rfl:cs=[]:=h;rfl
 | x::l,cs,h=>by
  obtain⟨A,ca,B,cb,cs1,rfl,h1,h2⟩:=h;rw [List.length_append,flX_len h2,List.length_cons]
  show 6+l.length*6=_
  omega
theorem flX_cells{w:World}:∀ {l:List Ex}{cs:List Value},flX w l cs→∀ u∈cs,u.oneCell'=true
 | [],cs,h,u,hu=>by
  obtain rfl:cs=[]:=h
  cases hu
 | x::l,cs,h,u,hu=>by
  obtain⟨A,ca,B,cb,cs1,rfl,h1,h2⟩:=h;rcases List.mem_append.1 hu with hu | hu
  · simp only [exL,List.mem_cons,List.not_mem_nil,or_false] at hu;rcases hu with rfl | rfl | rfl | rfl | rfl | rfl <;> rfl
  · exact flX_cells h2 u hu
theorem flX_below{w w':World}(hb:Below w.heap.size w w'):∀ {l:List Ex}{cs:List Value},flX w l cs→flX w' l cs
 | [],cs,h=>h
 | x::l,cs,h=>by
  obtain⟨A,ca,B,cb,cs1,rfl,h1,h2⟩:=h;exact⟨A,ca,B,cb,cs1,rfl,h1.below hb,flX_below hb h2⟩
theorem flX_rd{w:World}{b:Nat}:∀ {l:List Ex}{cs:List Value}{off:Nat},flX w l cs→w.rangeAt b off cs→rdXs w l b off
 | [],cs,off,h,hr=>by simp only [rdXs]
 | x::l,cs,off,h,hr=>by
  obtain⟨A,ca,B,cb,cs1,rfl,h1,h2⟩:=h;simp only [rdXs];refine⟨⟨A,ca,B,cb,fun j v hj=>hr j v ?_,h1⟩,flX_rd h2 fun j v hj=>?_⟩
  · rw [List.getElem?_append_left (List.getElem?_eq_some_iff.1 hj).1];exact hj
  · rw [Nat.add_assoc];refine hr (6+j) v ?_;rw [List.getElem?_append_right (by show 6≤6+j;omega)]
    show cs1[6+j-6]?=some v
    rw [show 6+j-6=j by omega];exact hj
def Cel6(w:World) (A:Option Addr) (n:Nat) (cs:List Value):Prop:=
 cs.length=n*6∧n≤9223372036854775807∧(0<n→∃ b off,A=some ⟨b,off,none⟩∧b<w.heap.size∧w.rangeAt b off cs)
theorem Cel6.of_own{w:World}{base:Nat}{e:TypeId}{v:Value}{n:Nat}{cs:List Value}(h:w.ownsRow base e 6 v n cs) (hm:n≤9223372036854775807):∃ A c,v=.slice A n c∧Cel6 w A n cs∧(0<n→∃ g,A=some ⟨g,0,none⟩∧base≤g):=by
 rcases h.2 with⟨rfl,rfl⟩|⟨g,cap,cur,rfl,hg,hh,hnc,hcm,hcs,ht⟩
 · exact⟨none,0,rfl,⟨h.1,hm,by omega⟩,by omega⟩
 · refine⟨_,cap,rfl,⟨h.1,hm,fun hn=>⟨g,0,rfl,(Array.getElem?_eq_some_iff.1 hh).1,fun j v hj=>?_⟩⟩,fun _=>⟨g,rfl,hg⟩⟩;have:=h.cellAt j (by rw [← h.1];exact(List.getElem?_eq_some_iff.1 hj).1);rw [Nat.zero_add,this,hj]
theorem Cel6.rd{w w0:World}{A:Option Addr}{n:Nat}{cs:List Value}{l:List Ex}(h:Cel6 w A n cs) (hf:flX w0 l cs) (hb:Below w0.heap.size w0 w):RdX w A n l:=by
 have h1:=flX_len hf;have h2:=h.1;refine⟨by omega,h.2.1,fun hn=>?_⟩;obtain⟨b,off,e,hbl,hr⟩:=h.2.2 hn;exact⟨b,off,e,hbl,flX_rd (flX_below hb hf) hr⟩
theorem own_belowX{w w':World}{base:Nat}{e:TypeId}{size:Nat}{v:Value}{n:Nat}{xs:List Value}(h:w.ownsRow base e size v n xs) (hb:Below w.heap.size w w'):w'.ownsRow base e size v n xs:=by
 refine⟨h.1,?_⟩;rcases h.2 with h | ⟨g,cap,cur,e1,hg,hh,r⟩
 · exact .inl h
 · exact .inr ⟨g,cap,cur,e1,hg,(hb.block g (Array.getElem?_eq_some_iff.1 hh).1).trans hh,r⟩
def PartsAt(w0 w w':World) (e:Ending) (x:Ex):Prop:=∃ A c cs,e=.returned (.slice A (sizeX x) c)∧Cel6 w' A (sizeX x) cs∧flX w0 (partsX x) cs∧Below w.heap.size w w'∧∃ g,A=some ⟨g,0,none⟩∧w.heap.size≤g
theorem infoEx:∃ i:TypeInfo,Tryz.prog.info? 26=some i∧i.size=6∧i.zero=some (.agg #[.int .i64 0,.int .i64 0,.string ⟨#[]⟩,.int .i64 0,.slice none 0 0,.slice none 0 0])∧i.bytes=88:=by
 have h:(Tryz.prog.info? 26).map (fun i=>(i.size,i.zero,i.bytes))=some (6,some (.agg #[.int .i64 0,.int .i64 0,.string ⟨#[]⟩,.int .i64 0,.slice none 0 0,.slice none 0 0]),88):=by kernel_rfl
 cases hq:Tryz.prog.info? 26 with
 | none=>rw [hq] at h;cases h
 | some i=>
  rw [hq] at h;simp only [Option.map_some,Option.some.injEq,Prod.mk.injEq] at h;exact⟨i,rfl,h.1,h.2.1,h.2.2⟩
theorem refParts:∀ (x:Ex) (A:Option Addr) (ca:Nat) (B:Option Addr) (cb:Nat) (w0 w:World),rdX w0 x A B→Below w0.heap.size w0 w→sizeX x≤1000000 →
 Calls Tryz.prog 36 #[.agg (exA x A ca B cb)] w fun e w'=>PartsAt w0 w w' e x:=by
 refine size_ind fun x ih A ca B cb w0 w hr0 hb0 hs=>?_;obtain⟨i0,hi,hz0,hz1,hz2⟩:=infoEx;have HIH:=Hd ih;have HSZ:=Hd (sizeX_eq x);have hmx:=hr0.subs.max;have HR0:=Hd hr0;have HB0:=Hd hb0;have HF:=Hd fun w1 h=>box_facts w x A ca B cb w1 h (hr0.below hb0);have HSN:=Hd fun i (hi:i<x.subs.length)=>sizes_snoc hi;have HPN:=Hd fun i (hi:i<x.subs.length)=>partss_snoc hi;have HLE:=Hd fun i=>sizes_take x.subs i;have HSUB:=Hd fun i (hi:i<x.subs.length)=>size_sub (subX_mem hi);have HTL:=Hd (List.take_length (l:=x.subs));have HONE:=Hd (flX_one (ca:=ca) (cb:=cb) hr0);have hsx:=sizeX_eq x;clear ih hr0 hb0;unfold exA at HF HIH ⊢;unfold exL at HONE;generalize hlen:x.subs.length=len at *
 go_enter Tryz.func36,Tryz.ntmps36
 go_upto_region 1 with(fail)
 generalize hw1:w.alloc _=w1;obtain⟨hb1,hg,hr1,hcell⟩:=HF.out w1 hw1;have HC:=Hd hcell;have HB1:=Hd hb1;obtain⟨q0,q1,q2,q3,q4,q5⟩:=Sx (hcell w1 (Below.refl _ _));clear hcell hb1 hr1 hw1 HF;have HL:=Hd fun(cs:Array Value) (hs:cs.size=1*6)=>World.ownsRow_lit (base:=w1.heap.size) (e:=26) (size:=6) w1 cs 1 (Nat.le_refl _) (by decide) hs;have HBA:=Hd fun(o:Obj)=>(Below.refl w1.heap.size w1).alloc (Nat.le_refl _) o
 go_wp2_with fail
 go_loopw [3,4] (fun v i wr=>∃ k:Nat,k≤len∧i=.int .i64 k∧(∃ cs,flX w0 (x::partssX (x.subs.take k)) cs∧wr.ownsRow w1.heap.size 26 6 v (1+sizesX (x.subs.take k)) cs)∧Below w1.heap.size w1 wr) (fun _ i _=>len-(intOf i).toNat)
 case atStart=>
  refine⟨0,Nat.zero_le _,rfl,⟨_,?_,HL.out _ rfl⟩,HBA.out _⟩;exact HONE.out
 case round=>
  obtain⟨k,hk,rfl,⟨cs,hfl,hrow⟩,hbw⟩:=hrel;have HBW:=Hd hbw;have HFL:=Hd hfl;have HRW:=Hd hrow;have hc5:=HC.out wr hbw 5;have hle:=HLE.out k;have hbs:=hbw.size;have HB0R:=Hd (HB0.out.trans ((HB1.out.trans (hbw.mono (Nat.le_of_lt hg))).mono HB0.out.size))
  by_cases hlt:k<len
  · obtain⟨b,off,rfl,hb,hat⟩:=HR0.out.sub (i:=k) (by omega);obtain⟨A',ca',B',cb',hrg,hrd⟩:=hat k (by omega);obtain⟨c0,c1,c2,c3,c4,c5⟩:=rangeAt_six (rangeAt_keep hrg hb fun p hp=>HB0R.out.cell hp);have HRD:=Hd hrd;have HSNK:=Hd (HSN.out k (by omega));have HPNK:=Hd (HPN.out k (by omega));have hsn:=HSN.out k (by omega);have hle2:=HLE.out (k+1);have hss:=HSUB.out k (by omega);clear hat hbw hrg hrd hfl hrow
    go_wp2_with fail
    refine(HIH.out k (by omega) A' ca' B' cb' w0 _ HRD.out HB0R.out (by omega)).mono ?_;rintro r w2 ⟨A2,c2',cs2,rfl,hcel,hfl2,hb2,_⟩;obtain⟨b2,off2,rfl,hbl2,hrg2⟩:=hcel.2.2 (size_pos _);have HFA:=Hd (flX_app HFL.out hfl2);have HF2:=Hd (flX_cells hfl2);have hcl:=hcel.1;have hrow2:=own_belowX HRW.out hb2;have HBW2:=Hd (HBW.out.trans (hb2.mono HBW.out.size));have hbs2:=HBW2.out.size
    go_wp2_with (at_builtin;go_must (refine wpList_append_own_at _ rfl _ _ 24 rfl w1.heap.size 26 i0 _ 6 88 Tryz.underlying24 hi hz1 hz0 hz2 rfl (by decide) _ _ _ rfl hrow2 ⟨b2,off2,none⟩ (sizeX (subX x k)) c2' cs2 rfl hcl (fun j u hu=>by rw [Addr.add_mid];exact hrg2 j u hu) HF2.out (by unfold maxLen;omega) (by omega) hbs2 ?_;intro v' w3 hown' hgrow _ hloc))
    have HBE:=Hd (HBW2.out.grown hgrow hbs2 (fun j hj=>(hrow2.lt j hj).1));have HOW:=Hd hown';clear hown' hgrow hloc hrow2 hb2
    go_wp2_with fail
    go_roundw
    case rel=>
     refine⟨k+1,by omega,by go_num,⟨cs++cs2,?_,?_⟩,HBE.out⟩
     · rw [HPNK.out];exact HFA.out
     · rw [HSNK.out,← Nat.add_assoc];exact HOW.out
    case measure=>simp [intOf];omega
  · have hkl:k=len:=by omega
    subst hkl;have HE:=Hd (hlen ▸ HTL.out:x.subs.take k=x.subs);rw [HE.out] at HRW HFL;obtain⟨A3,c3,rfl,hcel,hgg⟩:=Cel6.of_own HRW.out (by omega);have HCL:=Hd hcel;obtain⟨g3,hA3,hg3⟩:=hgg (by omega);have HA3:=Hd hA3;clear hA3 hgg;clear hcel hfl hrow
    go_wp2_with fail
    go_ret
    rw [← HSZ.out] at HCL;refine⟨A3,c3,cs,?_,HCL.out,?_,HB1.out.trans (HBW.out.mono (Nat.le_of_lt hg)),g3,HA3.out,by omega⟩
    · rw [HSZ.out];rfl
    · rw [partsX_eq];exact HFL.out
end
section
open Go.RowKit Go.Sort
theorem all_false{α:Type} [Inhabited α] {l:List α}{f:α→Bool}{i:Nat}(hi:i<l.length) (h:f (l[i]?.getD default)=false):l.all f=false:=by
 rw [List.all_eq_false];refine⟨l[i]?.getD default,?_,by simp [h]⟩;rw [List.getElem?_eq_getElem hi];exact List.getElem_mem _
theorem all_take_succ{α:Type} [Inhabited α] {l:List α}{f:α→Bool}{k:Nat}(hk:k<l.length) (h:(l.take k).all f=true) (hx:f (l[k]?.getD default)=true):(l.take (k+1)).all f=true:=by
 rw [List.take_succ_eq_append_getElem hk,List.all_append,h,Bool.true_and];rw [List.getElem?_eq_getElem hk] at hx
 simpa using hx
theorem all_take_end{α:Type}{l:List α}{f:α→Bool}{k:Nat}(h:(l.take k).all f=true) (hk:l.length≤k):l.all f=true:=by rwa [List.take_of_length_le hk] at h
instance :Inhabited ByteArray:=⟨ByteArray.empty⟩
def fewA(t:ByteArray):Bool:=!decide (100<t.size)
def fewP(p:Ex):Bool:=!decide (200<p.s.size) && !decide (20<p.arms.length) && p.arms.all fewA
def tinyX(x:Ex):Bool:=decide (sizeX x<200) && (partsX x).all fewP
theorem refFew(x:Ex) (A:Option Addr) (ca:Nat) (B:Option Addr) (cb:Nat) (w:World) (hr:rdX w x A B) (hs:sizeX x≤1000000):
 Calls Tryz.prog 35 #[.agg (exA x A ca B cb)] w fun e w'=>e=.returned (.bool ((partsX x).all fewP))∧Below w.heap.size w w':=by
 have HF:=Hd fun w1 h=>box_facts w x A ca B cb w1 h hr;have HP:=Hd fun w1 (h:Below w.heap.size w w1)=>refParts x A ca B cb w w1 hr h hs;have HLN:=Hd (partsX_len x);have hsp:=size_pos x;clear hr;unfold exA at HF HP ⊢
 go_enter Tryz.func35,Tryz.ntmps35
 go_upto_region 1 with(fail)
 generalize hw1:w.alloc _=w1;obtain⟨hb1,hg,hr1,hcell⟩:=HF.out w1 hw1;have HB1:=Hd hb1;have HP1:=Hd (HP.out w1 hb1);obtain⟨q0,q1,q2,q3,q4,q5⟩:=Sx (hcell w1 (Below.refl _ _));clear hcell hb1 hr1 hw1 HF HP
 go_wp2_with fail
 refine HP1.out.mono ?_;rintro r w2 ⟨A2,c2,cs2,rfl,hcel,hfl2,hb2,_⟩;have HB2:=Hd (HB1.out.trans (hb2.mono HB1.out.size));have HRX:=Hd (hcel.rd hfl2 HB2.out);clear hcel hfl2 hb2 q0 q1 q2 q3 q4 q5 HP1;generalize hl:partsX x=l at *;have HLL:=Hd hl;generalize hn:sizeX x=n at *
 go_wp2_with fail
 go_loopw [4] (fun i wr=>∃ k:Nat,k≤n∧i=.int .i64 k∧w2=wr∧(l.take k).all fewP=true) (fun i _=>n-(intOf i).toNat)
 case atStart=>exact⟨0,Nat.zero_le _,rfl,rfl,by simp⟩
 case round=>
  obtain⟨k,hk,rfl,rfl,hall⟩:=hrel;have HA:=Hd hall;clear hall
  by_cases hlt:k<n
  · obtain⟨b,off,rfl,hb,hat⟩:=HRX.out.at_ hlt;obtain⟨A',ca',B',cb',hrg,hrd⟩:=hat k hlt;obtain⟨c0,c1,c2,c3,c4,c5⟩:=rangeAt_six hrg;have HAR:=Hd hrd.arms;have HK:=Hd (show k<l.length by rw [HLN.out];exact hlt);clear hat hrg hrd;generalize hp:l[k]?.getD default=p at *;have HPP:=Hd hp
    by_cases h1:200<p.s.size
    · have HN:=Hd (all_false (f:=fewP) HK.out (by rw [HPP.out];simp [fewP,h1]))
      go_wp2_with fail
      go_ret
      exact⟨ret_bool (by first | exact HN.out.symm | (rw [HLL.out];exact HN.out.symm)),HB2.out⟩
    · by_cases h2:20<p.arms.length
      · have HN:=Hd (all_false (f:=fewP) HK.out (by rw [HPP.out];simp [fewP,h2]))
        go_wp2_with fail
        go_ret
        exact⟨ret_bool (by first | exact HN.out.symm | (rw [HLL.out];exact HN.out.symm)),HB2.out⟩
      · generalize hm:p.arms.length=m at *;have HM:=Hd hm
        go_wp2_with fail
        go_loopw [5] (fun j wr=>∃ i:Nat,i≤m∧j=.int .i64 i∧w2=wr∧(p.arms.take i).all fewA=true) (fun j _=>m-(intOf j).toNat)
        case atStart=>exact⟨0,Nat.zero_le _,rfl,rfl,by simp⟩
        case round=>
         obtain⟨i,hi,rfl,rfl,hall⟩:=hrel;have HJ:=Hd hall;clear hall
         by_cases him:i<m
         · obtain⟨b3,off3,rfl,hb3,hc3⟩:=HAR.out.at_ him;have hci:=hc3 i him;have HI:=Hd (show i<p.arms.length by rw [HM.out];exact him);clear hc3;generalize ht:p.arms[i]?.getD ByteArray.empty=t at *;have HT:=Hd ht
           by_cases h3:100<t.size
           · have HN:=Hd (all_false (f:=fewA) HI.out (by show fewA (p.arms[i]?.getD ByteArray.empty)=false;rw [HT.out];simp [fewA,h3]));have HN2:=Hd (all_false (f:=fewP) HK.out (by rw [HPP.out];unfold fewP;rw [HN.out];simp))
             go_wp2_with fail
             go_ret
             exact⟨ret_bool (by first | exact HN2.out.symm | (rw [HLL.out];exact HN2.out.symm)),HB2.out⟩
           · have HN:=Hd (all_take_succ (f:=fewA) HI.out HJ.out (by show fewA (p.arms[i]?.getD ByteArray.empty)=true;rw [HT.out];simp [fewA,h3]))
             go_wp2_with fail
             go_roundw
             case rel=>exact⟨i+1,by omega,by go_num,(by first | trivial | rfl),HN.out⟩
             case measure=>simp [intOf];omega
         · have HN:=Hd (all_take_end HJ.out (by rw [HM.out];omega));have HN2:=Hd (all_take_succ (f:=fewP) HK.out HA.out (by rw [HPP.out];unfold fewP;rw [HN.out,HM.out];simp [h1,h2]))
           go_wp2_with fail
           go_roundw
           case rel=>exact⟨k+1,by omega,by go_num,(by first | trivial | rfl),HN2.out⟩
           case measure=>simp [intOf];omega
  · have HN:=Hd (all_take_end HA.out (by rw [HLN.out];omega))
    go_wp2_with fail
    go_ret
    exact⟨ret_bool (by first | exact HN.out.symm | (rw [HLL.out];exact HN.out.symm)),HB2.out⟩
theorem refSmall(x:Ex) (A:Option Addr) (ca:Nat) (B:Option Addr) (cb:Nat) (w:World) (hr:rdX w x A B):
 Calls Tryz.prog 16 #[.agg (exA x A ca B cb)] w fun e w'=>e=.returned (.bool (tinyX x))∧Below w.heap.size w w':=by
 have HF:=Hd fun w1 h=>box_facts w x A ca B cb w1 h hr;have HCT:=Hd fun w1 (h:rdX w1 x A B)=>refCount x A ca B cb w1 h 200 (by omega);have HFW:=Hd fun w1 (h:rdX w1 x A B) (h2:sizeX x≤1000000)=>refFew x A ca B cb w1 h h2;have HT:=Hd (show tinyX x=(decide (sizeX x<200) && (partsX x).all fewP) from rfl);clear hr;unfold exA at HF HCT HFW ⊢
 by_cases hs:sizeX x<200
 · obtain⟨q,hq⟩:∃ q,200-sizeX x=q+1:=⟨199-sizeX x,by omega⟩;rw [hq] at HCT;have HT1:=Hd (show tinyX x=(partsX x).all fewP by rw [HT.out];simp [hs]);clear hq HT
   go_enter Tryz.func16,Tryz.ntmps16
   go_upto_region 1 with(fail)
   generalize hw1:w.alloc _=w1;obtain⟨hb1,hg,hr1,hcell⟩:=HF.out w1 hw1;have HB1:=Hd hb1;have HC1:=Hd (HCT.out w1 hr1);have HR1:=Hd hr1;obtain⟨q0,q1,q2,q3,q4,q5⟩:=Sx (hcell w1 (Below.refl _ _));have HCC:=Hd hcell;clear hcell hb1 hr1 hw1 HF HCT
   go_wp2_with fail
   refine HC1.out.mono ?_;rintro r w2 ⟨rfl,hb2⟩;have HB2:=Hd (HB1.out.trans (hb2.mono HB1.out.size));have HF2:=Hd (HFW.out w2 (HR1.out.below hb2) (by omega));clear q0 q1 q2 q3 q4 q5;obtain⟨q0,q1,q2,q3,q4,q5⟩:=Sx (HCC.out w2 hb2);clear hb2 HCC HFW
   go_wp2_with fail
   refine HF2.out.mono ?_;rintro r w3 ⟨rfl,hb3⟩;have HB3:=Hd (HB2.out.trans (hb3.mono HB2.out.size));clear hb3;generalize hb:(partsX x).all fewP=bb at *
   go_wp2_with fail
   go_ret
   exact⟨ret_bool (by rw [HT1.out]),HB3.out⟩
 · have hq:200-sizeX x=0:=by omega
   rw [hq] at HCT;have HT1:=Hd (show tinyX x=false by rw [HT.out];simp [hs]);clear hq HT HFW
   go_enter Tryz.func16,Tryz.ntmps16
   go_upto_region 1 with(fail)
   generalize hw1:w.alloc _=w1;obtain⟨hb1,hg,hr1,hcell⟩:=HF.out w1 hw1;have HB1:=Hd hb1;have HC1:=Hd (HCT.out w1 hr1);obtain⟨q0,q1,q2,q3,q4,q5⟩:=Sx (hcell w1 (Below.refl _ _));clear hcell hb1 hr1 hw1 HF HCT
   go_wp2_with fail
   refine HC1.out.mono ?_;rintro r w2 ⟨rfl,hb2⟩;have HB2:=Hd (HB1.out.trans (hb2.mono HB1.out.size));clear hb2
   go_wp2_with fail
   go_ret
   exact⟨ret_bool HT1.out.symm,HB2.out⟩
end
section
open Go.RowKit
def signs:List ByteArray:=[⟨#[]⟩,⟨#[45]⟩,⟨#[110,111,116]⟩,⟨#[43]⟩,⟨#[45]⟩,⟨#[42]⟩,⟨#[47]⟩,⟨#[109,111,100]⟩,⟨#[97,110,100]⟩,⟨#[111,114]⟩,⟨#[120,111,114]⟩,⟨#[61]⟩,⟨#[60,62]⟩,⟨#[60]⟩,⟨#[60,61]⟩,⟨#[62]⟩,⟨#[62,61]⟩]
def signS(op:Int):ByteArray:=if 1≤op∧op≤16 then signs[op.toNat]?.getD ⟨#[]⟩ else⟨#[]⟩
theorem sign_no{op:Int}(h:op<1∨16<op):signS op=⟨#[]⟩:=by
 unfold signS;rw [if_neg (by omega)]
theorem sg_no{op:Int}(h:op<1∨16<op) (k:Int) (hk:1≤k∧k≤16):(op==k)=false:=by
 rw [beq_eq_false_iff_ne];omega
theorem arSign(op:Int) (w:World):
 Calls Tryz.prog 152 #[.int .i64 op] w fun r w'=>r=.returned (.string (signS op))∧w=w':=by
 obtain h | rfl | rfl | rfl | rfl | rfl | rfl | rfl | rfl | rfl | rfl | rfl | rfl | rfl | rfl | rfl | rfl:(op<1∨16<op)∨op=1∨op=2∨op=3∨op=4∨op=5∨op=6∨op=7∨op=8∨op=9∨op=10∨op=11∨op=12∨op=13∨op=14∨op=15∨op=16:=by omega
 · rw [sign_no h];have b1:=sg_no h 1 (by omega);have b2:=sg_no h 2 (by omega);have b3:=sg_no h 3 (by omega);have b4:=sg_no h 4 (by omega);have b5:=sg_no h 5 (by omega);have b6:=sg_no h 6 (by omega);have b7:=sg_no h 7 (by omega);have b8:=sg_no h 8 (by omega);have b9:=sg_no h 9 (by omega);have b10:=sg_no h 10 (by omega);have b11:=sg_no h 11 (by omega);have b12:=sg_no h 12 (by omega);have b13:=sg_no h 13 (by omega);have b14:=sg_no h 14 (by omega);have b15:=sg_no h 15 (by omega);have b16:=sg_no h 16 (by omega);clear h
   go_enter Tryz.func152,Tryz.ntmps152
   go_wp2_with fail
   go_ret
   exact⟨rfl,rfl⟩
 all_goals
  go_enter Tryz.func152,Tryz.ntmps152
  go_wp2_with fail
  go_ret
  exact⟨rfl,rfl⟩
theorem refSign(op:Int) (w:World):
 Calls Tryz.prog 71 #[.int .i64 op] w fun r w'=>r=.returned (.string (signS op))∧Below w.heap.size w w':=by
 obtain h | rfl | rfl | rfl | rfl | rfl | rfl | rfl | rfl | rfl | rfl | rfl | rfl | rfl | rfl | rfl | rfl:(op<1∨16<op)∨op=1∨op=2∨op=3∨op=4∨op=5∨op=6∨op=7∨op=8∨op=9∨op=10∨op=11∨op=12∨op=13∨op=14∨op=15∨op=16:=by omega
 · rw [sign_no h];rcases h with h | h
   all_goals
    go_enter Tryz.func71,Tryz.ntmps71
    go_wp2_with fail
    go_ret
    exact⟨rfl,(Below.refl _ _).alloc (Nat.le_refl _) _⟩
 all_goals
  go_enter Tryz.func71,Tryz.ntmps71
  go_wp2_with fail
  go_ret
  exact⟨rfl,(Below.refl _ _).alloc (Nat.le_refl _) _⟩
end
end Go.Proofs.YtokiaaapgkdpmaaGreatDoor
