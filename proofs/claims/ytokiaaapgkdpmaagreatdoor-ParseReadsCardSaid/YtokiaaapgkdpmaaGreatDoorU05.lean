/- Parts of the proof: LxM, NmT, ExS, EyB, EyC, ArY. Conditions: each theorem's own. -/
import Derived.Lib.ParseIntB
import Derived.Deep.RegionHeld3
import Derived.Test.YtokiaaapgkdpmaaGreatDoorU01
namespace Go.Proofs.YtokiaaapgkdpmaaGreatDoor
set_option linter.unusedVariables false
set_option linter.unusedSimpArgs false
set_option maxRecDepth 100000
set_option maxHeartbeats 40000000
section
def letB(n:Int):Bool:=smallB n || greatB n
def spaceB(c:UInt8):Bool:=c==9 || c==10 || c==13 || c==32
def lineL(l:List UInt8):List UInt8:=l.takeWhile fun c=>c != 10
def blankN(l:List UInt8):Nat:=
 if [45,45].isPrefixOf l=true then(lineL l).length else match l with
  | []=>0
  | c::_=>if spaceB c=true then 1 else 0
def nameL(l:List UInt8):List UInt8:=l.takeWhile fun c=>nameC (c.toNat:Int)
def digL(l:List UInt8):List UInt8:=l.takeWhile fun c=>digitB (c.toNat:Int)
def quotL(l:List UInt8):List UInt8:=l.takeWhile fun c=>c != 39
def decV(l:List UInt8):Nat:=l.foldl (fun a c=>a*10+(c.toNat-48)) 0
def marksL:List (List UInt8):=[[58,61],[45,62],[60,61],[62,61],[60,62],[40],[41],[123],[125],[91],[93],[44],[59],[58],[61],[60],[62],[43],[45],[42],[47]]
def markL(l:List UInt8):Option (List UInt8):=marksL.find? fun m=>m.isPrefixOf l
structure Tk where
 k:Int
 s:List UInt8
 n:Int
 a:Nat
instance :Inhabited Tk:=⟨⟨0,[],0,0⟩⟩
def nameT(l:List UInt8):Option (Tk × Nat):=
 if(lowB (nameL l) || wordB (nameL l))=true then some (⟨1,nameL l,0,0⟩,(nameL l).length)
 else if highB (nameL l)=true then some (⟨2,nameL l,0,0⟩,(nameL l).length) else none
def numT(l:List UInt8):Option (Tk × Nat):=
 if(1<(digL l).length∧l.head?=some 48)∨9223372036854775807<decV (digL l) then none
 else some (⟨3,digL l,decV (digL l),0⟩,(digL l).length)
def pathT(l:List UInt8):Option (Tk × Nat):=
 if(quotL l).length<l.length∧pathB (quotL l)=true then some (⟨4,quotL l,0,0⟩,(quotL l).length+2) else none
def markT(l:List UInt8):Option (Tk × Nat):=(markL l).map fun m=>(⟨5,m,0,0⟩,m.length)
def tokL:List UInt8→Option (Tk × Nat)
 | []=>none
 | c::l=>if letB (c.toNat:Int)=true then nameT (c::l) else if digitB (c.toNat:Int)=true then numT (c::l) else if c=39 then pathT l else markT (c::l)
theorem tok_cons(c:UInt8) (l:List UInt8):tokL (c::l)=if letB (c.toNat:Int)=true then nameT (c::l) else if digitB (c.toNat:Int)=true then numT (c::l) else if c=39 then pathT l else markT (c::l):=rfl
theorem tw_le{p:UInt8→Bool}(l:List UInt8):(l.takeWhile p).length≤l.length:=(List.takeWhile_prefix p).length_le
theorem tw_take{p:UInt8→Bool}(l:List UInt8):l.takeWhile p=l.take (l.takeWhile p).length:=by
 have h:=List.takeWhile_prefix (l:=l) p;exact(List.prefix_iff_eq_take.1 h)
theorem tw_pos{p:UInt8→Bool}{c:UInt8}{l:List UInt8}(h:p c=true):0<((c::l).takeWhile p).length:=by
 simp [List.takeWhile_cons,h]
theorem tw_eq{p:UInt8→Bool}:∀ {a l:List UInt8},(∀ c∈a,p c=true)→(l=a∨∃ c b,l=a++c::b∧p c=false)→l.takeWhile p=a
 | [],l,_,h=>by
  rcases h with rfl | ⟨c,b,rfl,hc⟩
  · rfl
  · simp [List.takeWhile_cons,hc]
 | x::a,l,ha,h=>by
  have hx:=ha x (by simp);have ih:=fun l h=>tw_eq (a:=a) (l:=l) (fun c hc=>ha c (by simp [hc])) h;rcases h with rfl | ⟨c,b,rfl,hc⟩
  · simp [List.takeWhile_cons,hx,ih a (.inl rfl)]
  · simp [List.takeWhile_cons,hx,ih _ (.inr ⟨c,b,rfl,hc⟩)]
theorem tw_all{p:UInt8→Bool}:∀ (l:List UInt8),∀ c∈l.takeWhile p,p c=true
 | [],c,h=>by simp at h
 | x::l,c,h=>by
  cases hx:p x with
  | false=>simp [List.takeWhile_cons,hx] at h
  | true=>
   simp only [List.takeWhile_cons,hx,if_true,List.mem_cons] at h;rcases h with rfl | h
   · exact hx
   · exact tw_all l c h
theorem mark_mem{l m:List UInt8}(h:markL l=some m):m∈marksL∧m.isPrefixOf l=true:=by
 unfold markL at h;have h2:=List.find?_some h;exact⟨List.mem_of_find?_eq_some h,h2⟩
theorem mark_pos{l m:List UInt8}(h:markL l=some m):0<m.length∧m.length≤l.length∧m=l.take m.length:=by
 obtain⟨h1,h2⟩:=mark_mem h;have h3:∀ m∈marksL,0<m.length:=by decide
 rw [List.isPrefixOf_iff_prefix] at h2;exact⟨h3 m h1,h2.length_le,List.prefix_iff_eq_take.1 h2⟩
def Tk.w(t:Tk):Nat:=t.s.length+(if t.k=4 then 2 else 0)
theorem tok_ok{l:List UInt8}{t:Tk}{z:Nat}(h:tokL l=some (t,z)):
 0<z∧z≤l.length∧t.w=z∧t.k≠6∧t.a=0∧(t.k≠4→t.s=l.take z):=by
 cases l with
 | nil=>cases h
 | cons c l=>
  rw [tok_cons] at h
  by_cases h1:letB (c.toNat:Int)=true
  · rw [if_pos h1] at h
    have hn:nameC (c.toNat:Int)=true:=by
     simp only [letB,Bool.or_eq_true] at h1;rcases h1 with h1 | h1 <;> simp [nameC,h1]
    have hp:0<(nameL (c::l)).length:=tw_pos (p:=fun c=>nameC (c.toNat:Int)) hn;have hle:(nameL (c::l)).length≤(c::l).length:=tw_le _;have ht:nameL (c::l)=(c::l).take (nameL (c::l)).length:=tw_take _;unfold nameT at h
    split at h
    · cases h;exact⟨hp,hle,by simp [Tk.w],by simp,rfl,fun _=>ht⟩
    · split at h
      · cases h;exact⟨hp,hle,by simp [Tk.w],by simp,rfl,fun _=>ht⟩
      · cases h
  · rw [if_neg h1] at h
    by_cases h2:digitB (c.toNat:Int)=true
    · rw [if_pos h2] at h;have hp:0<(digL (c::l)).length:=tw_pos (p:=fun c=>digitB (c.toNat:Int)) h2;have hle:(digL (c::l)).length≤(c::l).length:=tw_le _;have ht:digL (c::l)=(c::l).take (digL (c::l)).length:=tw_take _;unfold numT at h
      split at h
      · cases h
      · cases h;exact⟨hp,hle,by simp [Tk.w],by simp,rfl,fun _=>ht⟩
    · rw [if_neg h2] at h
      by_cases h3:c=39
      · rw [if_pos h3] at h;unfold pathT at h
        split at h
        · rename_i hh
          cases h
          exact⟨by omega,by simp;omega,by simp [Tk.w],by simp,rfl,fun h=>absurd rfl h⟩
        · cases h
      · rw [if_neg h3] at h;unfold markT at h
        cases hm:markL (c::l) with
        | none=>rw [hm] at h;cases h
        | some m=>
         rw [hm] at h;obtain⟨p1,p2,p3⟩:=mark_pos hm
         cases h
         exact⟨p1,p2,by simp [Tk.w],by simp,rfl,fun _=>p3⟩
theorem blank_le(l:List UInt8):blankN l≤l.length:=by
 unfold blankN
 split
 · exact tw_le _
 · split
   · exact Nat.zero_le _
   · split <;> simp
def lexL(a:Nat) (l:List UInt8):List Tk × Option Nat:=
 if h:l=[] then([],none)
 else if hb:0<blankN l then lexL (a+blankN l) (l.drop (blankN l))
 else match tokL l with
  | none=>([],some a)
  | some (t,z)=>if hz:0<z then({ t with a:=a }::(lexL (a+z) (l.drop z)).1,(lexL (a+z) (l.drop z)).2) else([],some a)
termination_by l.length
decreasing_by
 all_goals
  have:=List.length_pos_iff.2 h;simp only [List.length_drop];omega
theorem lex_nil(a:Nat):lexL a []=([],none):=by unfold lexL;simp
theorem lex_blank{a:Nat}{l:List UInt8}(hb:0<blankN l):lexL a l=lexL (a+blankN l) (l.drop (blankN l)):=by
 have h:l≠[]:=fun e=>by subst e;revert hb;decide
 rw [lexL]
 simp [h,hb]
theorem lex_bad{a:Nat}{l:List UInt8}(h:l≠[]) (hb:blankN l=0) (ht:tokL l=none):lexL a l=([],some a):=by
 rw [lexL]
 simp [h,hb,ht]
theorem lex_tok{a z:Nat}{l:List UInt8}{t:Tk}(hb:blankN l=0) (ht:tokL l=some (t,z)):
 lexL a l=({ t with a:=a }::(lexL (a+z) (l.drop z)).1,(lexL (a+z) (l.drop z)).2):=by
 have h:l≠[]:=fun e=>by subst e;cases ht
 rw [lexL]
 simp [h,hb,ht,(tok_ok ht).1]
theorem lex_ind{P:Nat→List UInt8→Prop}(hn:∀ a,P a []) (hb:∀ a l,l≠[]→0<blankN l→P (a+blankN l) (l.drop (blankN l))→P a l)
 (hx:∀ a l,l≠[]→blankN l=0→tokL l=none→P a l) (ht:∀ a l t z,l≠[]→blankN l=0→tokL l=some (t,z)→P (a+z) (l.drop z)→P a l):
 ∀ n a l,l.length≤n→P a l
 | 0,a,l,h=>by
  obtain rfl:l=[]:=List.eq_nil_of_length_eq_zero (by omega);exact hn a
 | n+1,a,l,h=>by
  by_cases h0:l=[]
  · subst h0;exact hn a
  · have hl:=List.length_pos_iff.2 h0;rcases Nat.eq_zero_or_pos (blankN l) with h1 | h1
    · cases h2:tokL l with
      | none=>exact hx a l h0 h1 h2
      | some x=>
       obtain⟨t,z⟩:=x;refine ht a l t z h0 h1 h2 (lex_ind hn hb hx ht n _ _ ?_);have:=(tok_ok h2).1;simp only [List.length_drop];omega
    · refine hb a l h0 h1 (lex_ind hn hb hx ht n _ _ ?_);simp only [List.length_drop];omega
def Tk.up(d:Nat) (t:Tk):Tk:={ t with a:=t.a+d }
def Runs(s:List UInt8):Nat→List Tk→Prop
 | at_,[]=>at_≤s.length
 | at_,t::ts=>at_≤t.a∧t.a+t.w≤s.length∧t.k≠6∧(t.k≠4→t.s=(s.drop t.a).take t.w)∧Runs s (t.a+t.w) ts
theorem Runs.less{s:List UInt8}:∀ {ts:List Tk}{a b:Nat},Runs s b ts→a≤b→Runs s a ts
 | [],a,b,h,hab=>Nat.le_trans hab h
 | t::ts,a,b,h,hab=>⟨Nat.le_trans hab h.1,h.2⟩
def endAt(ts:List Tk):Nat→Nat
 | 0=>0
 | i+1=>(ts[i]?.getD default).a+(ts[i]?.getD default).w
theorem Runs.at_{s:List UInt8}:∀ {ts:List Tk}{b:Nat},Runs s b ts→∀ i,i<ts.length →
 (if i=0 then b else endAt ts i)≤(ts[i]?.getD default).a∧(ts[i]?.getD default).a+(ts[i]?.getD default).w≤s.length∧(ts[i]?.getD default).k≠6 ∧
  ((ts[i]?.getD default).k≠4→(ts[i]?.getD default).s=(s.drop (ts[i]?.getD default).a).take (ts[i]?.getD default).w)
 | [],b,h,i,hi=>by simp at hi
 | t::ts,b,h,0,hi=>⟨h.1,h.2.1,h.2.2.1,h.2.2.2.1⟩
 | t::ts,b,h,i+1,hi=>by
  have ih:=Runs.at_ h.2.2.2.2 i (by simpa using hi);simp only [List.getElem?_cons_succ];refine⟨?_,ih.2⟩;have h1:=ih.1
  cases i with
  | zero=>simpa [endAt] using h1
  | succ j=>simpa [endAt] using h1
theorem Runs.end_{s:List UInt8}{ts:List Tk}{b:Nat}(h:Runs s b ts):endAt ts ts.length≤s.length:=by
 cases e:ts.length with
 | zero=>exact Nat.zero_le _
 | succ n=>exact(h.at_ n (by omega)).2.1
theorem decV_snoc(l:List UInt8) (c:UInt8):decV (l++[c])=decV l*10+(c.toNat-48):=by simp [decV]
theorem dec_up(l:List UInt8):∀ a b:Nat,a≤b→l.foldl (fun a c=>a*10+(c.toNat-48)) a≤l.foldl (fun a c=>a*10+(c.toNat-48)) b∧a≤l.foldl (fun a c=>a*10+(c.toNat-48)) b:=by
 induction l with
 | nil=>intro a b h;exact⟨h,h⟩
 | cons c l ih=>
  intro a b h;simp only [List.foldl_cons];refine⟨(ih _ _ (by omega)).1,Nat.le_trans ?_ (ih _ _ (Nat.le_refl _)).2⟩;omega
theorem decV_app(l m:List UInt8):decV l≤decV (l++m):=by
 unfold decV;rw [List.foldl_append];exact(dec_up m _ _ (Nat.le_refl _)).2
theorem digit_nat{c:UInt8}(h:digitB (c.toNat:Int)=true):48≤c.toNat∧c.toNat≤57:=by
 simp [digitB] at h
 omega
theorem parseM(l:List UInt8):∀ acc:Nat,(∀ c∈l,digitB (c.toNat:Int)=true) →
 Lib.parseUintM (2 ^ 64-1) acc l=.ok (l.foldl (fun a c=>a*10+(c.toNat-48)) acc) ∨
 (Lib.parseUintM (2 ^ 64-1) acc l=.range∧18446744073709551616≤l.foldl (fun a c=>a*10+(c.toNat-48)) acc):=by
 induction l with
 | nil=>intro acc _;exact .inl rfl
 | cons c l ih=>
  intro acc hd;have hc:=digit_nat (hd c (by simp));simp only [List.foldl_cons];unfold Lib.parseUintM;rw [if_pos hc];have hu:=(dec_up l (acc*10+(c.toNat-48)) _ (Nat.le_refl _)).2
  by_cases h1:1844674407370955162≤acc
  · rw [if_pos h1];exact .inr ⟨rfl,by omega⟩
  · rw [if_neg h1]
    by_cases h2:2 ^ 64-1<acc*10+(c.toNat-48)
    · rw [if_pos h2];exact .inr ⟨rfl,by omega⟩
    · rw [if_neg h2];exact ih _ fun c hc=>hd c (by simp [hc])
theorem parse_digits{l:List UInt8}(h0:l≠[]) (hd:∀ c∈l,digitB (c.toNat:Int)=true):
 Lib.parseIntB 64 l=if 9223372036854775807<decV l then .range else .ok (decV l:Int):=by
 cases l with
 | nil=>exact absurd rfl h0
 | cons c l=>
  have hc:=digit_nat (hd c (by simp));have h43:¬ (c.toNat=43∨c.toNat=45):=by omega
  have h45:¬ c.toNat=45:=by omega
  unfold Lib.parseIntB;simp only [if_neg h43];unfold Lib.parseUintB;rw [if_neg (by simp)];have e:decV (c::l)=(c::l).foldl (fun a c=>a*10+(c.toNat-48)) 0:=rfl;rcases parseM (c::l) 0 hd with h | ⟨h,h2⟩
  · rw [h,← e]
    by_cases hb:9223372036854775807<decV (c::l)
    · have:(2:Nat) ^ (64-1)≤decV (c::l):=by omega
      simp [h45,hb,this]
    · have:¬ (2:Nat) ^ (64-1)≤decV (c::l):=by omega
      simp [h45,hb,this]
  · rw [h];rw [← e] at h2;have:9223372036854775807<decV (c::l):=by omega
    simp [this]
end
section
open Go.RowKit
def sameT(a b:List ByteArray):Bool:=decide (a.map (fun s=>s.toList)=b.map (fun s=>s.toList))
def sameTo(a b:List ByteArray) (k:Nat):Prop:=∀ j,j<k→((a[j]?.getD ByteArray.empty).toList==(b[j]?.getD ByteArray.empty).toList)=true
section
variable {a b:List ByteArray}{k:Nat}
theorem sameT_len(h:a.length≠b.length):sameT a b=false:=decide_eq_false fun e=>h (by simpa using congrArg List.length e)
theorem sameT_at(ha:k<a.length) (hb:k<b.length) (h:((a[k]?.getD ByteArray.empty).toList==(b[k]?.getD ByteArray.empty).toList)=false):sameT a b=false:=decide_eq_false fun e=>by
 have h1:=congrArg (fun l=>l[k]?) e;simp only [List.getElem?_map,List.getElem?_eq_getElem ha,List.getElem?_eq_getElem hb,Option.map_some,Option.some.injEq] at h1;rw [List.getElem?_eq_getElem ha,List.getElem?_eq_getElem hb,Option.getD_some,Option.getD_some,h1] at h
 simp at h
theorem sameT_yes(hl:a.length=b.length) (H:sameTo a b k) (h:a.length≤k):sameT a b=true:=decide_eq_true (by
 apply List.ext_getElem
 · simpa using hl
 · intro i h1 h2;rw [List.length_map] at h1 h2;have:=H i (by omega);rw [List.getElem?_eq_getElem h1,List.getElem?_eq_getElem h2,Option.getD_some,Option.getD_some] at this
   simpa using this)
theorem sameTo_succ(H:sameTo a b k) (h:((a[k]?.getD ByteArray.empty).toList==(b[k]?.getD ByteArray.empty).toList)=true):sameTo a b (k+1):=fun j hj=>by
 rcases Nat.lt_or_ge j k with h1 | h1
 · exact H j h1
 · obtain rfl:j=k:=by omega
   exact h
end
theorem refNames(A B:Option Addr) (n m c d:Nat) (ss tt:List ByteArray) (w:World) (hs:RdT w A n ss) (ht:RdT w B m tt):
 Calls Tryz.prog 20 #[.slice A n c,.slice B m d] w fun r w'=>r=.returned (.bool (sameT ss tt))∧Below w.heap.size w w':=by
 have h1:=hs.len;have h2:=ht.len;have h3:=hs.max;have h4:=ht.max
 by_cases hnm:n=m
 · subst hnm
   go_enter Tryz.func20,Tryz.ntmps20
   go_wp2_with fail
   go_loopw [5] (fun i wr=>∃ k:Nat,k≤n∧i=.int .i64 k∧sameTo ss tt k∧∃ p,wr=w.drewN p) (fun i _=>n-(intOf i).toNat)
   case atStart=>exact⟨0,Nat.zero_le _,rfl,fun j hj=>absurd hj (by omega),0,rfl⟩
   case round=>
    obtain⟨k,hk,rfl,hto,p,rfl⟩:=hrel;have HT:=Hd hto;clear hto
    by_cases hlt:k<n
    · obtain⟨b,off,rfl,hb,hc⟩:=hs.at_ hlt;obtain⟨b',off',rfl,hb',hc'⟩:=ht.at_ hlt;have e1:=hc k hlt;have e2:=hc' k hlt;have HN:=Hd fun h=>sameTo_succ HT.out h;have HF:=Hd fun h=>sameT_at (a:=ss) (b:=tt) (k:=k) (by omega) (by omega) h;clear hc hc';generalize ss[k]?.getD ByteArray.empty=x at e1 HN HF;generalize tt[k]?.getD ByteArray.empty=y at e2 HN HF
      by_cases he:(x.toList==y.toList)=true
      · have HN:=Hd (HN.out he);have hne:(x.toList != y.toList)=false:=by simp only [bne,he];rfl
        go_wp2_with fail
        go_quiet (fail)
        go_wp2_with fail
        go_roundw
        case rel=>exact⟨k+1,by omega,by go_num,HN.out,_,rfl⟩
        case measure=>simp [intOf];omega
      · have he:(x.toList==y.toList)=false:=by simpa using he
        have HF:=Hd (HF.out he);have hne:(x.toList != y.toList)=true:=by simp only [bne,he];rfl
        go_wp2_with fail
        go_quiet (fail)
        go_wp2_with fail
        go_ret
        exact⟨ret_bool HF.out.symm,below_drewN (below_drewN (Below.refl _ _) _) _⟩
    · have HY:=Hd (sameT_yes (by omega) HT.out (by omega))
      go_wp2_with fail
      go_ret
      exact⟨ret_bool HY.out.symm,below_drewN (Below.refl _ _) _⟩
 · have hF:=Hd (sameT_len (a:=ss) (b:=tt) (by omega));have hne:((n:Int) != (m:Int))=true:=by rw [bne_iff_ne];omega
   go_enter Tryz.func20,Tryz.ntmps20
   go_wp2_with fail
   go_ret
   exact⟨ret_bool hF.out.symm,Below.refl _ _⟩
end
section
open Go.RowKit Go.Sort
mutual
def sameX:Ex→Ex→Bool
 | .mk k n s op arms subs,y=>(k==y.k) && (n==y.n) && (s.toList==y.s.toList) && (op==y.op) && sameT arms y.arms && sameXs subs y.subs
def sameXs:List Ex→List Ex→Bool
 | [],[]=>true
 | x::l,y::m=>sameX x y && sameXs l m
 | _,_=>false
end
theorem sameX_eq(x y:Ex):sameX x y=((x.k==y.k) && (x.n==y.n) && (x.s.toList==y.s.toList) && (x.op==y.op) && sameT x.arms y.arms && sameXs x.subs y.subs):=by
 cases x;simp only [sameX,Ex.k,Ex.n,Ex.s,Ex.op,Ex.arms,Ex.subs]
theorem sameXs_len:∀ {l m:List Ex},l.length≠m.length→sameXs l m=false
 | [],[],h=>absurd rfl h
 | x::l,y::m,h=>by
  simp only [sameXs,sameXs_len (l:=l) (m:=m) (fun e=>h (by simp [e])),Bool.and_false]
 | [],_::_,_=>by simp only [sameXs]
 | _::_,[],_=>by simp only [sameXs]
theorem sameXs_at:∀ {l m:List Ex}{i:Nat},i<l.length→i<m.length→sameX (l[i]?.getD default) (m[i]?.getD default)=false→sameXs l m=false
 | [],_,i,h,_,_=>absurd h (by simp)
 | _::_,[],i,_,h,_=>absurd h (by simp)
 | x::l,y::m,0,_,_,h=>by
  simp only [List.getElem?_cons_zero,Option.getD_some] at h;simp only [sameXs,h,Bool.false_and]
 | x::l,y::m,i+1,h1,h2,h=>by
  simp only [List.getElem?_cons_succ] at h;simp only [sameXs,sameXs_at (by simpa using h1) (by simpa using h2) h,Bool.and_false]
theorem sameXs_yes:∀ {l m:List Ex},l.length=m.length→(∀ i,i<l.length→sameX (l[i]?.getD default) (m[i]?.getD default)=true)→sameXs l m=true
 | [],[],_,_=>by simp only [sameXs]
 | [],_::_,h,_=>by simp at h
 | _::_,[],h,_=>by simp at h
 | x::l,y::m,h,H=>by
  simp only [sameXs,Bool.and_eq_true];refine⟨by simpa using H 0 (by simp),sameXs_yes (by simpa using h) fun i hi=>?_⟩
  simpa using H (i+1) (by simpa using hi)
theorem box2_facts(w:World) (x y:Ex) (A A':Option Addr) (ca ca':Nat) (B B':Option Addr) (cb cb':Nat) (w1:World) (h:(w.alloc (.cells (exA x A ca B cb) 26)).alloc (.cells (exA y A' ca' B' cb') 26)=w1) (hr:rdX w x A B) (hr':rdX w y A' B'):
 Below w.heap.size w w1∧w.heap.size+1<w1.heap.size∧rdX w1 x A B∧rdX w1 y A' B'∧(∀ w',Below w1.heap.size w1 w'→∀ j,w'.cell? ⟨w.heap.size,j,none⟩=(exA x A ca B cb)[j]?)∧∀ w',Below w1.heap.size w1 w'→∀ j,w'.cell? ⟨w.heap.size+1,j,none⟩=(exA y A' ca' B' cb')[j]?:=by
 subst h;refine⟨((Below.refl _ _).alloc (Nat.le_refl _) _).alloc (by simp) _,by simp,(hr.alloc _).alloc _,(hr'.alloc _).alloc _,fun w' hb j=>?_,fun w' hb j=>?_⟩
 · rw [hb.cell (p:=⟨w.heap.size,j,none⟩) (by simp;omega),World.cell?_alloc_lt _ _ _ (by simp),World.cell?_alloc_new]
 · rw [hb.cell (p:=⟨w.heap.size+1,j,none⟩) (by simp)];have:=World.cell?_alloc_new (w.alloc (.cells (exA x A ca B cb) 26)) (exA y A' ca' B' cb') 26 j;rwa [World.size_alloc] at this
theorem refSame:∀ (x:Ex) (A:Option Addr) (ca:Nat) (B:Option Addr) (cb:Nat) (y:Ex) (A':Option Addr) (ca':Nat) (B':Option Addr) (cb':Nat) (w:World),rdX w x A B→rdX w y A' B' →
 Calls Tryz.prog 9 #[.agg (exA x A ca B cb),.agg (exA y A' ca' B' cb')] w fun e w'=>e=.returned (.bool (sameX x y))∧Below w.heap.size w w':=by
 refine size_ind fun x ih A ca B cb y A' ca' B' cb' w hr hr'=>?_;have HIH:=Hd ih;have hmx:=hr.subs.max;have hmx':=hr'.subs.max;have HF:=Hd fun w1 h=>box2_facts w x y A A' ca ca' B B' cb cb' w1 h hr hr';have HNM:=Hd fun w1 (h:Below w.heap.size w w1)=>refNames A A' x.arms.length y.arms.length ca ca' x.arms y.arms w1 (hr.below h).arms (hr'.below h).arms;have HS:=Hd (sameX_eq x y);have HXL:=Hd fun h=>sameXs_len (l:=x.subs) (m:=y.subs) h;have HXA:=Hd fun i h1 h2 h=>sameXs_at (l:=x.subs) (m:=y.subs) (i:=i) h1 h2 h;have HXY:=Hd fun h1 h2=>sameXs_yes (l:=x.subs) (m:=y.subs) h1 h2;clear ih hr hr';unfold exA at HF HIH ⊢;generalize hlen:x.subs.length=n1 at *;generalize hlen':y.subs.length=n2 at *;generalize sameX x y=res at *;generalize x.k=k1 at *;generalize y.k=k2 at *;generalize x.n=m1 at *;generalize y.n=m2 at *;generalize x.s=s1 at *;generalize y.s=s2 at *;generalize x.op=o1 at *;generalize y.op=o2 at *;generalize sameT x.arms y.arms=nb at *;generalize x.arms.length=a1 at *;generalize y.arms.length=a2 at *;generalize hk:(k1==k2)=bk at *;generalize hm:(m1==m2)=bm at *;generalize hs:(s1.toList==s2.toList)=bs at *;generalize ho:(o1==o2)=bo at *;have nk:(k1 != k2)=!bk:=by rw [bne,hk]
 have nm:(m1 != m2)=!bm:=by rw [bne,hm]
 have ns:(s1.toList != s2.toList)=!bs:=by rw [bne,hs]
 have no:(o1 != o2)=!bo:=by rw [bne,ho]
 clear hk hm ho
 cases bk with
 | false=>
  have HN:=Hd (show res=false by rw [HS.out];rfl)
  go_enter Tryz.func9,Tryz.ntmps9
  go_upto_region 1 with(fail)
  generalize hw1:(w.alloc _).alloc _=w1;obtain⟨hb1,hg,hr1,hr2,hcell,hcell2⟩:=HF.out w1 hw1;have HB1:=Hd hb1;have q0:=hcell w1 (Below.refl _ _) 0;have p0:=hcell2 w1 (Below.refl _ _) 0;clear hcell hcell2 hb1 hr1 hr2 hw1 HF
  go_wp2_with fail
  go_ret
  exact⟨ret_bool HN.out.symm,HB1.out⟩
 | true=>
  cases bm with
  | false=>
   have HN:=Hd (show res=false by rw [HS.out];simp)
   go_enter Tryz.func9,Tryz.ntmps9
   go_upto_region 1 with(fail)
   generalize hw1:(w.alloc _).alloc _=w1;obtain⟨hb1,hg,hr1,hr2,hcell,hcell2⟩:=HF.out w1 hw1;have HB1:=Hd hb1;have HC:=Hd hcell;have HC2:=Hd hcell2;have HR1:=Hd hr1;have HR2:=Hd hr2;have HN1:=Hd (HNM.out w1 hb1);have q0:=hcell w1 (Below.refl _ _) 0;have p0:=hcell2 w1 (Below.refl _ _) 0;have q1:=hcell w1 (Below.refl _ _) 1;have p1:=hcell2 w1 (Below.refl _ _) 1;have q2:=hcell w1 (Below.refl _ _) 2;have p2:=hcell2 w1 (Below.refl _ _) 2;have q3:=hcell w1 (Below.refl _ _) 3;have p3:=hcell2 w1 (Below.refl _ _) 3;have q4:=hcell w1 (Below.refl _ _) 4;have p4:=hcell2 w1 (Below.refl _ _) 4;have q5:=hcell w1 (Below.refl _ _) 5;have p5:=hcell2 w1 (Below.refl _ _) 5;clear hcell hcell2 hb1 hr1 hr2 hw1 HF
   go_wp2_with fail
   go_ret
   exact⟨ret_bool HN.out.symm,HB1.out⟩
  | true=>
   cases bs with
   | false=>
    have HN:=Hd (show res=false by rw [HS.out];simp)
    go_enter Tryz.func9,Tryz.ntmps9
    go_upto_region 1 with(fail)
    generalize hw1:(w.alloc _).alloc _=w1;obtain⟨hb1,hg,hr1,hr2,hcell,hcell2⟩:=HF.out w1 hw1;have HB1:=Hd hb1;have HC:=Hd hcell;have HC2:=Hd hcell2;have HR1:=Hd hr1;have HR2:=Hd hr2;have HN1:=Hd (HNM.out w1 hb1);have q0:=hcell w1 (Below.refl _ _) 0;have p0:=hcell2 w1 (Below.refl _ _) 0;have q1:=hcell w1 (Below.refl _ _) 1;have p1:=hcell2 w1 (Below.refl _ _) 1;have q2:=hcell w1 (Below.refl _ _) 2;have p2:=hcell2 w1 (Below.refl _ _) 2;have q3:=hcell w1 (Below.refl _ _) 3;have p3:=hcell2 w1 (Below.refl _ _) 3;have q4:=hcell w1 (Below.refl _ _) 4;have p4:=hcell2 w1 (Below.refl _ _) 4;have q5:=hcell w1 (Below.refl _ _) 5;have p5:=hcell2 w1 (Below.refl _ _) 5;clear hcell hcell2 hb1 hr1 hr2 hw1 HF
    go_wp2_with fail
    go_ret
    exact⟨ret_bool HN.out.symm,HB1.out⟩
   | true=>
    cases bo with
    | false=>
     have HN:=Hd (show res=false by rw [HS.out];simp)
     go_enter Tryz.func9,Tryz.ntmps9
     go_upto_region 1 with(fail)
     generalize hw1:(w.alloc _).alloc _=w1;obtain⟨hb1,hg,hr1,hr2,hcell,hcell2⟩:=HF.out w1 hw1;have HB1:=Hd hb1;have HC:=Hd hcell;have HC2:=Hd hcell2;have HR1:=Hd hr1;have HR2:=Hd hr2;have HN1:=Hd (HNM.out w1 hb1);have q0:=hcell w1 (Below.refl _ _) 0;have p0:=hcell2 w1 (Below.refl _ _) 0;have q1:=hcell w1 (Below.refl _ _) 1;have p1:=hcell2 w1 (Below.refl _ _) 1;have q2:=hcell w1 (Below.refl _ _) 2;have p2:=hcell2 w1 (Below.refl _ _) 2;have q3:=hcell w1 (Below.refl _ _) 3;have p3:=hcell2 w1 (Below.refl _ _) 3;have q4:=hcell w1 (Below.refl _ _) 4;have p4:=hcell2 w1 (Below.refl _ _) 4;have q5:=hcell w1 (Below.refl _ _) 5;have p5:=hcell2 w1 (Below.refl _ _) 5;clear hcell hcell2 hb1 hr1 hr2 hw1 HF
     go_wp2_with fail
     go_ret
     exact⟨ret_bool HN.out.symm,HB1.out⟩
    | true=>
     cases nb with
     | false=>
      have HN:=Hd (show res=false by rw [HS.out];simp)
      go_enter Tryz.func9,Tryz.ntmps9
      go_upto_region 1 with(fail)
      generalize hw1:(w.alloc _).alloc _=w1;obtain⟨hb1,hg,hr1,hr2,hcell,hcell2⟩:=HF.out w1 hw1;have HB1:=Hd hb1;have HC:=Hd hcell;have HC2:=Hd hcell2;have HR1:=Hd hr1;have HR2:=Hd hr2;have HN1:=Hd (HNM.out w1 hb1);have q0:=hcell w1 (Below.refl _ _) 0;have p0:=hcell2 w1 (Below.refl _ _) 0;have q1:=hcell w1 (Below.refl _ _) 1;have p1:=hcell2 w1 (Below.refl _ _) 1;have q2:=hcell w1 (Below.refl _ _) 2;have p2:=hcell2 w1 (Below.refl _ _) 2;have q3:=hcell w1 (Below.refl _ _) 3;have p3:=hcell2 w1 (Below.refl _ _) 3;have q4:=hcell w1 (Below.refl _ _) 4;have p4:=hcell2 w1 (Below.refl _ _) 4;have q5:=hcell w1 (Below.refl _ _) 5;have p5:=hcell2 w1 (Below.refl _ _) 5;clear hcell hcell2 hb1 hr1 hr2 hw1 HF
      go_wp2_with fail
      refine HN1.out.mono ?_;rintro r w2 ⟨rfl,hb2⟩;have HB2:=Hd (HB1.out.trans (hb2.mono HB1.out.size));clear hb2
      go_wp2_with fail
      go_ret
      exact⟨ret_bool HN.out.symm,HB2.out⟩
     | true=>
      by_cases hnn:n1=n2
      · subst hnn
        go_enter Tryz.func9,Tryz.ntmps9
        go_upto_region 1 with(fail)
        generalize hw1:(w.alloc _).alloc _=w1;obtain⟨hb1,hg,hr1,hr2,hcell,hcell2⟩:=HF.out w1 hw1;have HB1:=Hd hb1;have HC:=Hd hcell;have HC2:=Hd hcell2;have HR1:=Hd hr1;have HR2:=Hd hr2;have HN1:=Hd (HNM.out w1 hb1);have q0:=hcell w1 (Below.refl _ _) 0;have p0:=hcell2 w1 (Below.refl _ _) 0;have q1:=hcell w1 (Below.refl _ _) 1;have p1:=hcell2 w1 (Below.refl _ _) 1;have q2:=hcell w1 (Below.refl _ _) 2;have p2:=hcell2 w1 (Below.refl _ _) 2;have q3:=hcell w1 (Below.refl _ _) 3;have p3:=hcell2 w1 (Below.refl _ _) 3;have q4:=hcell w1 (Below.refl _ _) 4;have p4:=hcell2 w1 (Below.refl _ _) 4;have q5:=hcell w1 (Below.refl _ _) 5;have p5:=hcell2 w1 (Below.refl _ _) 5;clear hcell hcell2 hb1 hr1 hr2 hw1 HF
        go_wp2_with fail
        refine HN1.out.mono ?_;rintro r w2 ⟨rfl,hb2⟩;have HB2:=Hd (HB1.out.trans (hb2.mono HB1.out.size));have HW2:=Hd hb2;clear q0 q1 q2 q3 q4 q5 p0 p1 p2 p3 p4 p5;have q5:=HC.out w2 hb2 5;have p5:=HC2.out w2 hb2 5;clear hb2
        go_wp2_with fail
        go_loopw [5] (fun i wr=>∃ k:Nat,k≤n1∧i=.int .i64 k∧(∀ j,j<k→sameX (subX x j) (subX y j)=true)∧Below w1.heap.size w1 wr) (fun i _=>n1-(intOf i).toNat)
        case atStart=>exact⟨0,Nat.zero_le _,rfl,fun j hj=>absurd hj (by omega),HW2.out⟩
        case round=>
         obtain⟨k,hk,rfl,hall,hbw⟩:=hrel;have HA:=Hd hall;have HBW:=Hd hbw;have r5:=HC.out wr hbw 5;have s5:=HC2.out wr hbw 5;clear hall
         by_cases hlt:k<n1
         · obtain⟨b,off,rfl,hb,hat⟩:=(HR1.out.below hbw).sub (i:=k) (by omega);obtain⟨A1,ca1,B1,cb1,hrg,hrd⟩:=hat k (by omega);obtain⟨c0,c1,c2,c3,c4,c5⟩:=rangeAt_six hrg;obtain⟨b',off',rfl,hb',hat'⟩:=(HR2.out.below hbw).sub (i:=k) (by omega);obtain⟨A2,ca2,B2,cb2,hrg',hrd'⟩:=hat' k (by omega);obtain⟨d0,d1,d2,d3,d4,d5⟩:=rangeAt_six hrg';have HRD:=Hd hrd;have HRD':=Hd hrd';have HCL:=Hd fun d os=>HIH.out k (by omega) A1 ca1 B1 cb1 (subX y k) A2 ca2 B2 cb2 (grow (redrawn wr d) os) (HRD.out.below (below_regrown wr d os)) (HRD'.out.below (below_regrown wr d os));have HBQ:=Hd fun d os=>HBW.out.trans ((below_regrown wr d os).mono HBW.out.size);clear hat hat' hrg hrg' hrd hrd' hbw HN1
           cases hsm:sameX (subX x k) (subX y k) with
           | false=>
            have HN:=Hd (show res=false by rw [HS.out,HXA.out k (by omega) (by omega) hsm];simp);rw [hsm] at HCL
            go_wp2_with fail
            have cA:=fun d os=>Calls.regrown_of (HCL.out d os);have lr5:=fun d os=>cell_regrown r5 d os;have ls5:=fun d os=>cell_regrown s5 d os;have lc0:=fun d os=>cell_regrown c0 d os;have lc1:=fun d os=>cell_regrown c1 d os;have lc2:=fun d os=>cell_regrown c2 d os;have lc3:=fun d os=>cell_regrown c3 d os;have lc4:=fun d os=>cell_regrown c4 d os;have lc5:=fun d os=>cell_regrown c5 d os;have ld0:=fun d os=>cell_regrown d0 d os;have ld1:=fun d os=>cell_regrown d1 d os;have ld2:=fun d os=>cell_regrown d2 d os;have ld3:=fun d os=>cell_regrown d3 d os;have ld4:=fun d os=>cell_regrown d4 d os;have ld5:=fun d os=>cell_regrown d5 d os;refine wp_region_quiet_below (by kernel_rfl) (by kernel_rfl) ?_
            repeat (quiet_step (exact cA _ _))
            refine wpQuiet_nil ?_;intro _ hw';obtain⟨⟨dq,osq⟩,hw''⟩:=hw';subst hw'';have HBR:=Hd (HBQ.out dq osq);clear cA lr5 ls5 lc0 lc1 lc2 lc3 lc4 lc5 ld0 ld1 ld2 ld3 ld4 ld5;generalize grow (redrawn wr dq) osq=wq at *
            go_wp2_with fail
            go_ret
            exact⟨ret_bool HN.out.symm,HB1.out.trans (HBR.out.mono HB1.out.size)⟩
           | true=>
            have HN:=Hd (show ∀ j,j<k+1→sameX (subX x j) (subX y j)=true from fun j hj=>by
             rcases Nat.lt_or_ge j k with h | h
             · exact HA.out j h
             · obtain rfl:j=k:=by omega
               exact hsm)
            rw [hsm] at HCL
            go_wp2_with fail
            have cA:=fun d os=>Calls.regrown_of (HCL.out d os);have lr5:=fun d os=>cell_regrown r5 d os;have ls5:=fun d os=>cell_regrown s5 d os;have lc0:=fun d os=>cell_regrown c0 d os;have lc1:=fun d os=>cell_regrown c1 d os;have lc2:=fun d os=>cell_regrown c2 d os;have lc3:=fun d os=>cell_regrown c3 d os;have lc4:=fun d os=>cell_regrown c4 d os;have lc5:=fun d os=>cell_regrown c5 d os;have ld0:=fun d os=>cell_regrown d0 d os;have ld1:=fun d os=>cell_regrown d1 d os;have ld2:=fun d os=>cell_regrown d2 d os;have ld3:=fun d os=>cell_regrown d3 d os;have ld4:=fun d os=>cell_regrown d4 d os;have ld5:=fun d os=>cell_regrown d5 d os;refine wp_region_quiet_below (by kernel_rfl) (by kernel_rfl) ?_
            repeat (quiet_step (exact cA _ _))
            refine wpQuiet_nil ?_;intro _ hw';obtain⟨⟨dq,osq⟩,hw''⟩:=hw';subst hw'';have HBR:=Hd (HBQ.out dq osq);clear cA lr5 ls5 lc0 lc1 lc2 lc3 lc4 lc5 ld0 ld1 ld2 ld3 ld4 ld5;generalize grow (redrawn wr dq) osq=wq at *
            go_wp2_with fail
            go_roundw
            case rel=>exact⟨k+1,by omega,by go_num,HN.out,HBR.out⟩
            case measure=>simp [intOf];omega
         · have hkl:k=n1:=by omega
           have hyes:=HXY.out (by first | trivial | rfl) (fun i hi=>HA.out i (by rw [hkl];exact hi));have HN:=Hd (show res=true by rw [HS.out,hyes];rfl);clear hyes
           go_wp2_with fail
           go_ret
           exact⟨ret_bool HN.out.symm,HB1.out.trans (HBW.out.mono HB1.out.size)⟩
      · have nn:((n1:Int) != (n2:Int))=true:=by rw [bne_iff_ne];omega
        have HN:=Hd (show res=false by rw [HS.out,HXL.out (by omega)];simp)
        go_enter Tryz.func9,Tryz.ntmps9
        go_upto_region 1 with(fail)
        generalize hw1:(w.alloc _).alloc _=w1;obtain⟨hb1,hg,hr1,hr2,hcell,hcell2⟩:=HF.out w1 hw1;have HB1:=Hd hb1;have HC:=Hd hcell;have HC2:=Hd hcell2;have HR1:=Hd hr1;have HR2:=Hd hr2;have HN1:=Hd (HNM.out w1 hb1);have q0:=hcell w1 (Below.refl _ _) 0;have p0:=hcell2 w1 (Below.refl _ _) 0;have q1:=hcell w1 (Below.refl _ _) 1;have p1:=hcell2 w1 (Below.refl _ _) 1;have q2:=hcell w1 (Below.refl _ _) 2;have p2:=hcell2 w1 (Below.refl _ _) 2;have q3:=hcell w1 (Below.refl _ _) 3;have p3:=hcell2 w1 (Below.refl _ _) 3;have q4:=hcell w1 (Below.refl _ _) 4;have p4:=hcell2 w1 (Below.refl _ _) 4;have q5:=hcell w1 (Below.refl _ _) 5;have p5:=hcell2 w1 (Below.refl _ _) 5;clear hcell hcell2 hb1 hr1 hr2 hw1 HF
        go_wp2_with fail
        refine HN1.out.mono ?_;rintro r w2 ⟨rfl,hb2⟩;have HB2:=Hd (HB1.out.trans (hb2.mono HB1.out.size));clear q0 q1 q2 q3 q4 q5 p0 p1 p2 p3 p4 p5;have q5:=HC.out w2 hb2 5;have p5:=HC2.out w2 hb2 5;clear hb2
        go_wp2_with fail
        go_ret
        exact⟨ret_bool HN.out.symm,HB2.out⟩
end
section
open Go.RowKit Go.Sort
theorem slEqual(A B:Option Addr) (n m c d:Nat) (ss tt:List ByteArray) (w:World) (hs:RdT w A n ss) (ht:RdT w B m tt):
 Calls Tryz.prog 122 #[.slice A n c,.slice B m d] w fun r w'=>r=.returned (.bool (sameT ss tt))∧Below w.heap.size w w':=by
 have h1:=hs.len;have h2:=ht.len;have h3:=hs.max;have h4:=ht.max
 by_cases hnm:n=m
 · subst hnm
   go_enter Tryz.func122,Tryz.ntmps122
   go_wp2_with fail
   go_loopw [13] (fun i wr=>∃ k:Nat,k≤n∧i=.int .i64 k∧sameTo ss tt k∧∃ p,wr=w.drewN p) (fun i _=>n-(intOf i).toNat)
   case atStart=>exact⟨0,Nat.zero_le _,rfl,fun j hj=>absurd hj (by omega),0,rfl⟩
   case round=>
    obtain⟨k,hk,rfl,hto,p,rfl⟩:=hrel;have HT:=Hd hto;clear hto
    by_cases hlt:k<n
    · obtain⟨b,off,rfl,hb,hc⟩:=hs.at_ hlt;obtain⟨b',off',rfl,hb',hc'⟩:=ht.at_ hlt;have e1:=hc k hlt;have e2:=hc' k hlt;have HN:=Hd fun h=>sameTo_succ HT.out h;have HF:=Hd fun h=>sameT_at (a:=ss) (b:=tt) (k:=k) (by omega) (by omega) h;clear hc hc';generalize ss[k]?.getD ByteArray.empty=x at e1 HN HF;generalize tt[k]?.getD ByteArray.empty=y at e2 HN HF
      by_cases he:(x.toList==y.toList)=true
      · have HN:=Hd (HN.out he);have hne:(x.toList != y.toList)=false:=by simp only [bne,he];rfl
        go_wp2_with fail
        go_quiet (fail)
        go_wp2_with fail
        go_roundw
        case rel=>exact⟨k+1,by omega,by go_num,HN.out,_,rfl⟩
        case measure=>simp [intOf];omega
      · have he:(x.toList==y.toList)=false:=by simpa using he
        have HF:=Hd (HF.out he);have hne:(x.toList != y.toList)=true:=by simp only [bne,he];rfl
        go_wp2_with fail
        go_quiet (fail)
        go_wp2_with fail
        go_ret
        exact⟨ret_bool HF.out.symm,below_drewN (below_drewN (Below.refl _ _) _) _⟩
    · have HY:=Hd (sameT_yes (by omega) HT.out (by omega))
      go_wp2_with fail
      go_ret
      exact⟨ret_bool HY.out.symm,below_drewN (Below.refl _ _) _⟩
 · have hF:=Hd (sameT_len (a:=ss) (b:=tt) (by omega));have hne:((n:Int) != (m:Int))=true:=by rw [bne_iff_ne];omega
   go_enter Tryz.func122,Tryz.ntmps122
   go_wp2_with fail
   go_ret
   exact⟨ret_bool hF.out.symm,Below.refl _ _⟩
def fieldsB(x y:Ex):Bool:=(x.k==y.k) && (x.n==y.n) && (x.s.toList==y.s.toList) && (x.op==y.op) && sameT x.arms y.arms
theorem exFields(x:Ex) (A:Option Addr) (ca:Nat) (B:Option Addr) (cb:Nat) (y:Ex) (A':Option Addr) (ca':Nat) (B':Option Addr) (cb':Nat) (w:World) (hr:rdX w x A B) (hr':rdX w y A' B'):
 Calls Tryz.prog 94 #[.agg (exA x A ca B cb),.agg (exA y A' ca' B' cb')] w fun e w'=>e=.returned (.bool (fieldsB x y))∧Below w.heap.size w w':=by
 have HF:=Hd fun w1 h=>box2_facts w x y A A' ca ca' B B' cb cb' w1 h hr hr';have HNM:=Hd fun w1 (h:Below w.heap.size w w1)=>slEqual A A' x.arms.length y.arms.length ca ca' x.arms y.arms w1 (hr.below h).arms (hr'.below h).arms;have HS:=Hd (show fieldsB x y=((x.k==y.k) && (x.n==y.n) && (x.s.toList==y.s.toList) && (x.op==y.op) && sameT x.arms y.arms) from rfl);clear hr hr';unfold exA at HF ⊢;generalize fieldsB x y=res at *;generalize x.k=k1 at *;generalize y.k=k2 at *;generalize x.n=m1 at *;generalize y.n=m2 at *;generalize x.s=s1 at *;generalize y.s=s2 at *;generalize x.op=o1 at *;generalize y.op=o2 at *;generalize sameT x.arms y.arms=nb at *;generalize x.arms.length=a1 at *;generalize y.arms.length=a2 at *;generalize x.subs.length=n1 at *;generalize y.subs.length=n2 at *;generalize hk:(k1==k2)=bk at *;generalize hm:(m1==m2)=bm at *;generalize hs:(s1.toList==s2.toList)=bs at *;generalize ho:(o1==o2)=bo at *
 cases bk with
 | false=>
  have HN:=Hd (show res=false by rw [HS.out];simp)
  go_enter Tryz.func94,Tryz.ntmps94
  go_upto_region 1 with(fail)
  generalize hw1:(w.alloc _).alloc _=w1;obtain⟨hb1,hg,hr1,hr2,hcell,hcell2⟩:=HF.out w1 hw1;have HB1:=Hd hb1;have q0:=hcell w1 (Below.refl _ _) 0;have p0:=hcell2 w1 (Below.refl _ _) 0;have q1:=hcell w1 (Below.refl _ _) 1;have p1:=hcell2 w1 (Below.refl _ _) 1;have q2:=hcell w1 (Below.refl _ _) 2;have p2:=hcell2 w1 (Below.refl _ _) 2;have q3:=hcell w1 (Below.refl _ _) 3;have p3:=hcell2 w1 (Below.refl _ _) 3;have q4:=hcell w1 (Below.refl _ _) 4;have p4:=hcell2 w1 (Below.refl _ _) 4;have q5:=hcell w1 (Below.refl _ _) 5;have p5:=hcell2 w1 (Below.refl _ _) 5;clear hcell hcell2 hb1 hr1 hr2 hw1 HF
  go_wp2_with fail
  go_ret
  exact⟨ret_bool HN.out.symm,HB1.out⟩
 | true=>
  cases bm with
  | false=>
   have HN:=Hd (show res=false by rw [HS.out];simp)
   go_enter Tryz.func94,Tryz.ntmps94
   go_upto_region 1 with(fail)
   generalize hw1:(w.alloc _).alloc _=w1;obtain⟨hb1,hg,hr1,hr2,hcell,hcell2⟩:=HF.out w1 hw1;have HB1:=Hd hb1;have q0:=hcell w1 (Below.refl _ _) 0;have p0:=hcell2 w1 (Below.refl _ _) 0;have q1:=hcell w1 (Below.refl _ _) 1;have p1:=hcell2 w1 (Below.refl _ _) 1;have q2:=hcell w1 (Below.refl _ _) 2;have p2:=hcell2 w1 (Below.refl _ _) 2;have q3:=hcell w1 (Below.refl _ _) 3;have p3:=hcell2 w1 (Below.refl _ _) 3;have q4:=hcell w1 (Below.refl _ _) 4;have p4:=hcell2 w1 (Below.refl _ _) 4;have q5:=hcell w1 (Below.refl _ _) 5;have p5:=hcell2 w1 (Below.refl _ _) 5;clear hcell hcell2 hb1 hr1 hr2 hw1 HF
   go_wp2_with fail
   go_ret
   exact⟨ret_bool HN.out.symm,HB1.out⟩
  | true=>
   cases bs with
   | false=>
    have HN:=Hd (show res=false by rw [HS.out];simp)
    go_enter Tryz.func94,Tryz.ntmps94
    go_upto_region 1 with(fail)
    generalize hw1:(w.alloc _).alloc _=w1;obtain⟨hb1,hg,hr1,hr2,hcell,hcell2⟩:=HF.out w1 hw1;have HB1:=Hd hb1;have q0:=hcell w1 (Below.refl _ _) 0;have p0:=hcell2 w1 (Below.refl _ _) 0;have q1:=hcell w1 (Below.refl _ _) 1;have p1:=hcell2 w1 (Below.refl _ _) 1;have q2:=hcell w1 (Below.refl _ _) 2;have p2:=hcell2 w1 (Below.refl _ _) 2;have q3:=hcell w1 (Below.refl _ _) 3;have p3:=hcell2 w1 (Below.refl _ _) 3;have q4:=hcell w1 (Below.refl _ _) 4;have p4:=hcell2 w1 (Below.refl _ _) 4;have q5:=hcell w1 (Below.refl _ _) 5;have p5:=hcell2 w1 (Below.refl _ _) 5;clear hcell hcell2 hb1 hr1 hr2 hw1 HF
    go_wp2_with fail
    go_ret
    exact⟨ret_bool HN.out.symm,HB1.out⟩
   | true=>
    cases bo with
    | false=>
     have HN:=Hd (show res=false by rw [HS.out];simp)
     go_enter Tryz.func94,Tryz.ntmps94
     go_upto_region 1 with(fail)
     generalize hw1:(w.alloc _).alloc _=w1;obtain⟨hb1,hg,hr1,hr2,hcell,hcell2⟩:=HF.out w1 hw1;have HB1:=Hd hb1;have q0:=hcell w1 (Below.refl _ _) 0;have p0:=hcell2 w1 (Below.refl _ _) 0;have q1:=hcell w1 (Below.refl _ _) 1;have p1:=hcell2 w1 (Below.refl _ _) 1;have q2:=hcell w1 (Below.refl _ _) 2;have p2:=hcell2 w1 (Below.refl _ _) 2;have q3:=hcell w1 (Below.refl _ _) 3;have p3:=hcell2 w1 (Below.refl _ _) 3;have q4:=hcell w1 (Below.refl _ _) 4;have p4:=hcell2 w1 (Below.refl _ _) 4;have q5:=hcell w1 (Below.refl _ _) 5;have p5:=hcell2 w1 (Below.refl _ _) 5;clear hcell hcell2 hb1 hr1 hr2 hw1 HF
     go_wp2_with fail
     go_ret
     exact⟨ret_bool HN.out.symm,HB1.out⟩
    | true=>
     have HN:=Hd (show res=nb by rw [HS.out];simp)
     go_enter Tryz.func94,Tryz.ntmps94
     go_upto_region 1 with(fail)
     generalize hw1:(w.alloc _).alloc _=w1;obtain⟨hb1,hg,hr1,hr2,hcell,hcell2⟩:=HF.out w1 hw1;have HB1:=Hd hb1;have q0:=hcell w1 (Below.refl _ _) 0;have p0:=hcell2 w1 (Below.refl _ _) 0;have q1:=hcell w1 (Below.refl _ _) 1;have p1:=hcell2 w1 (Below.refl _ _) 1;have q2:=hcell w1 (Below.refl _ _) 2;have p2:=hcell2 w1 (Below.refl _ _) 2;have q3:=hcell w1 (Below.refl _ _) 3;have p3:=hcell2 w1 (Below.refl _ _) 3;have q4:=hcell w1 (Below.refl _ _) 4;have p4:=hcell2 w1 (Below.refl _ _) 4;have q5:=hcell w1 (Below.refl _ _) 5;have p5:=hcell2 w1 (Below.refl _ _) 5;have HN1:=Hd (HNM.out w1 hb1);clear hcell hcell2 hb1 hr1 hr2 hw1 HF
     go_wp2_with fail
     refine HN1.out.mono ?_;rintro r w2 ⟨rfl,hb2⟩;have HB2:=Hd (HB1.out.trans (hb2.mono HB1.out.size));clear hb2
     go_wp2_with fail
     go_ret
     exact⟨ret_bool HN.out.symm,HB2.out⟩
end
section
open Go.RowKit Go.Sort
end
section
open Go.RowKit
def signs:List ByteArray:=[⟨#[]⟩,⟨#[45]⟩,⟨#[110,111,116]⟩,⟨#[43]⟩,⟨#[45]⟩,⟨#[42]⟩,⟨#[47]⟩,⟨#[109,111,100]⟩,⟨#[97,110,100]⟩,⟨#[111,114]⟩,⟨#[120,111,114]⟩,⟨#[61]⟩,⟨#[60,62]⟩,⟨#[60]⟩,⟨#[60,61]⟩,⟨#[62]⟩,⟨#[62,61]⟩]
def signS(op:Int):ByteArray:=if 1≤op∧op≤16 then signs[op.toNat]?.getD ⟨#[]⟩ else⟨#[]⟩
theorem sign_no{op:Int}(h:op<1∨16<op):signS op=⟨#[]⟩:=by
 unfold signS;rw [if_neg (by omega)]
theorem sg_no{op:Int}(h:op<1∨16<op) (k:Int) (hk:1≤k∧k≤16):(op==k)=false:=by
 rw [beq_eq_false_iff_ne];omega
theorem arSign(op:Int) (w:World):
 Calls Tryz.prog 152 #[.int .i64 op] w fun r w'=>r=.returned (.string (signS op))∧w=w':=by
 obtain h | rfl | rfl | rfl | rfl | rfl | rfl | rfl | rfl | rfl | rfl | rfl | rfl | rfl | rfl | rfl | rfl:(op<1∨16<op)∨op=1∨op=2∨op=3∨op=4∨op=5∨op=6∨op=7∨op=8∨op=9∨op=10∨op=11∨op=12∨op=13∨op=14∨op=15∨op=16:=by omega
 · rw [sign_no h];have b1:=sg_no h 1 (by omega);have b2:=sg_no h 2 (by omega);have b3:=sg_no h 3 (by omega);have b4:=sg_no h 4 (by omega);have b5:=sg_no h 5 (by omega);have b6:=sg_no h 6 (by omega);have b7:=sg_no h 7 (by omega);have b8:=sg_no h 8 (by omega);have b9:=sg_no h 9 (by omega);have b10:=sg_no h 10 (by omega);have b11:=sg_no h 11 (by omega);have b12:=sg_no h 12 (by omega);have b13:=sg_no h 13 (by omega);have b14:=sg_no h 14 (by omega);have b15:=sg_no h 15 (by omega);have b16:=sg_no h 16 (by omega);clear h
   go_enter Tryz.func152,Tryz.ntmps152
   go_wp2_with fail
   go_ret
   exact⟨rfl,rfl⟩
 all_goals
  go_enter Tryz.func152,Tryz.ntmps152
  go_wp2_with fail
  go_ret
  exact⟨rfl,rfl⟩
theorem refSign(op:Int) (w:World):
 Calls Tryz.prog 71 #[.int .i64 op] w fun r w'=>r=.returned (.string (signS op))∧Below w.heap.size w w':=by
 obtain h | rfl | rfl | rfl | rfl | rfl | rfl | rfl | rfl | rfl | rfl | rfl | rfl | rfl | rfl | rfl | rfl:(op<1∨16<op)∨op=1∨op=2∨op=3∨op=4∨op=5∨op=6∨op=7∨op=8∨op=9∨op=10∨op=11∨op=12∨op=13∨op=14∨op=15∨op=16:=by omega
 · rw [sign_no h];rcases h with h | h
   all_goals
    go_enter Tryz.func71,Tryz.ntmps71
    go_wp2_with fail
    go_ret
    exact⟨rfl,(Below.refl _ _).alloc (Nat.le_refl _) _⟩
 all_goals
  go_enter Tryz.func71,Tryz.ntmps71
  go_wp2_with fail
  go_ret
  exact⟨rfl,(Below.refl _ _).alloc (Nat.le_refl _) _⟩
end
end Go.Proofs.YtokiaaapgkdpmaaGreatDoor
