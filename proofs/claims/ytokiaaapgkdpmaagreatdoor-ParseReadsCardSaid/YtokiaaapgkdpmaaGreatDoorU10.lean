/- Parts: ShG, PaM, EyI, EyF, EyJ. Conditions: each theorem's own. -/
import Derived.Lib.ItoaLen
import Derived.RangeFuncNested
import Derived.RangeFuncBound
import Derived.RangeFuncCalls
import Derived.RangeFuncLeaves
import Derived.Shelf.Abstract
import Derived.Shelf.RegionOpen
import Derived.OwnWalkIn
import Derived.TacticsInMore
import Derived.LoopNIn
import Derived.LoopIn
import Derived.RangeFuncBox
import Derived.Test.YtokiaaapgkdpmaaGreatDoorU04
import Derived.Test.YtokiaaapgkdpmaaGreatDoorU05
namespace Go.Proofs.YtokiaaapgkdpmaaGreatDoor
set_option linter.unusedVariables false
set_option linter.unusedSimpArgs false
set_option maxRecDepth 100000
set_option maxHeartbeats 40000000
section
def ofB(l:List UInt8):ByteArray:=⟨l.toArray⟩
theorem ofB_data(l:List UInt8):(ofB l).data.toList=l:=by simp[ofB]
theorem ofB_self(s:ByteArray):ofB s.data.toList=s:=by cases s;simp[ofB]
def trueL:List UInt8:=[116,114,117,101]
def falseL:List UInt8:=[102,97,108,115,101]
def notL:List UInt8:=[110,111,116]
def ifL:List UInt8:=[105,102]
def thenL:List UInt8:=[116,104,101,110]
def elseL:List UInt8:=[101,108,115,101]
def preL:List UInt8:=[112,114,101]
def mergeL:List UInt8:=[109,101,114,103,101]
def fbyL:List UInt8:=[102,98,121]
def whenL:List UInt8:=[119,104,101,110]
def withL:List UInt8:=[119,105,116,104]
def everyL:List UInt8:=[101,118,101,114,121]
def arrL:List UInt8:=[45,62]
def signsL:List (List UInt8):=[[],[45],[110,111,116],[43],[45],[42],[47],[109,111,100],[97,110,100],[111,114],[120,111,114],[61],[60,62],[60],[60,61],[62],[62,61]]
def signL(op:Int):List UInt8:=if 1≤op∧op≤16 then signsL[op.toNat]?.getD [] else []
def onL(name arm:List UInt8):List UInt8:=if arm=trueL then name else if arm=falseL then notL++32::name else arm++40::(name++[41])
def joinC:List (List UInt8)→List UInt8
 | []=>[]
 | [x]=>x
 | x::y::l=>x++44::32::joinC (y::l)
def gT(t:List (List UInt8))(i:Nat):List UInt8:=t[i]?.getD []
def armsT:List (List UInt8)→List (List UInt8)→List UInt8
 | a::arms,x::t=>32::40::(a++32::45::62::32::(x++41::armsT arms t))
 | _,_=>[]
def callT(n:Int)(s:List UInt8)(t:List (List UInt8)):List UInt8:=
 if n=1 then 40::(s++40::(joinC (t.take (t.length-1))++41::32::(everyL++32::(gT t (t.length-1)++[41])))) else s++40::(joinC t++[41])
def leafT(k n:Int)(s:List UInt8):List UInt8:=
 if k=1 then Lib.itoa n else if k=2 then(if n=1 then trueL else falseL) else if k=17 then 39::(s++[39]) else s
def textK(k n:Int)(s:List UInt8)(op:Int)(arms t:List (List UInt8)):List UInt8:=
 if k=5 then(if op=1 then 40::45::(gT t 0++[41]) else 40::(notL++32::(gT t 0++[41])))
 else if k=6 then 40::(gT t 0++32::(signL op++32::(gT t 1++[41])))
 else if k=7 then 40::(ifL++32::(gT t 0++32::(thenL++32::(gT t 1++32::(elseL++32::(gT t 2++[41]))))))
 else if k=8 then 40::(gT t 0++32::(fbyL++32::(gT t 1++[41])))
 else if k=9 then 40::(gT t 0++32::(arrL++32::(gT t 1++[41])))
 else if k=10 then 40::(preL++32::(gT t 0++[41]))
 else if k=11 then 40::(gT t 0++32::(whenL++32::(onL s (gT arms 0)++[41])))
 else if k=12 then 40::(mergeL++32::(s++(armsT arms t++[41])))
 else if k=13 then callT n s t
 else if k=14 then 91::(joinC t++[93])
 else if k=15 then gT t 0++91::(gT t 1++[93])
 else if k=16 then 40::(gT t 0++32::(withL++32::91::(gT t 1++93::32::61::32::(gT t 2++[41]))))
 else leafT k n s
mutual
def textL:Ex→List UInt8
 | .mk k n s op arms subs=>textK k n s.data.toList op (arms.map fun a=>a.data.toList) (textsL subs)
def textsL:List Ex→List (List UInt8)
 | []=>[]
 | x::l=>textL x::textsL l
end
theorem textsL_map:∀ l:List Ex,textsL l=l.map textL
 | []=>rfl
 | x::l=>by simp only[textsL,List.map_cons,textsL_map l]
theorem textL_eq(x:Ex):textL x=textK x.k x.n x.s.data.toList x.op (x.arms.map fun a=>a.data.toList) (x.subs.map textL):=by
 cases x;simp only[textL,textsL_map,Ex.k,Ex.n,Ex.s,Ex.op,Ex.arms,Ex.subs]
def cutOff:List UInt8→List UInt8→Option (List UInt8)
 | [],l=>some l
 | c::m,d::l=>if c=d then cutOff m l else none
 | _::_,[]=>none
def nmL(l:List UInt8):List UInt8:=l.takeWhile fun c=>nameC (c.toNat:Int)
abbrev Rdr:=List UInt8→Option (Ex × List UInt8)
def items(p:Rdr):Nat→List UInt8→Option (List Ex × List UInt8)
 | 0,_=>none
 | n+1,l=>(p l).bind fun y=>match cutOff [44,32] y.2 with
  | some r=>(items p n r).map fun z=>(y.1::z.1,z.2)
  | none=>some ([y.1],y.2)
def word(p:Rdr)(n:Nat)(l:List UInt8):Option (Ex × List UInt8):=
 if nmL l=trueL then some (Ex.mk 2 1 ByteArray.empty 0 [] [],l.drop (nmL l).length)
 else if nmL l=falseL then some (Ex.mk 2 0 ByteArray.empty 0 [] [],l.drop (nmL l).length)
 else if highB (nmL l)=true then some (Ex.mk 4 0 (ofB (nmL l)) 0 [] [],l.drop (nmL l).length)
 else match cutOff [40] (l.drop (nmL l).length) with
  | some r=>match cutOff [41] r with
   | some r2=>some (Ex.mk 13 0 (ofB (nmL l)) 0 [] [],r2)
   | none=>(items p n r).bind fun y=>(cutOff [41] y.2).map fun r2=>(Ex.mk 13 0 (ofB (nmL l)) 0 [] y.1,r2)
  | none=>some (Ex.mk 3 0 (ofB (nmL l)) 0 [] [],l.drop (nmL l).length)
def atX(a i:Ex):Ex:=Ex.mk 15 0 ByteArray.empty 0 [] [a,i]
def post(p:Rdr):Nat→Ex→Rdr
 | 0,x,r=>some (x,r)
 | n+1,x,r=>match cutOff [91] r with
  | some r1=>(p r1).bind fun y=>(cutOff [93] y.2).bind fun r2=>post p n (atX x y.1) r2
  | none=>some (x,r)
end
section
theorem empty_of{s:ByteArray}(h:(s.toList==[])=true):s=ByteArray.empty:=by
 rw[Lib.toList_data] at h;have h1:s.data.toList=[]:=by simpa using h
 exact ByteArray.ext (Array.ext' h1)
structure PartF (x:Ex):Prop where
 k1:1≤x.k
 k17:x.k≤17
 op0:x.k≠5→x.k≠6→x.op=0
 op5:x.k=5→x.op=1∨x.op=2
 op6:x.k=6→3≤x.op∧x.op≤16
 n0:x.k≠1→x.k≠2→x.k≠13→x.n=0
 n1:x.k=1→0≤x.n
 n2:x.k=2∨x.k=13→x.n=0∨x.n=1
 s0:x.k≠3→x.k≠4→x.k≠11→x.k≠12→x.k≠13→x.k≠17→x.s=ByteArray.empty
 low:x.k=3∨x.k=11∨x.k=12∨x.k=13→lowB x.s.data.toList=true
 high:x.k=4→highB x.s.data.toList=true
 path:x.k=17→pathB x.s.data.toList=true
 a0:x.k≠11→x.k≠12→x.arms=[]
 arms:∀ a∈x.arms,armB a=true
 a11:x.k=11→x.arms.length=1
 a12:x.k=12→x.arms.length≤6
 lo:(subsX x).1≤x.subs.length
 hi:(x.subs.length:Int)≤(subsX x).2
theorem part_facts{x:Ex}(h:partX x=true):PartF x:=by
 simp only[partX,Bool.and_eq_true,decide_eq_true_eq] at h;obtain⟨⟨⟨⟨⟨⟨⟨h1,h2⟩,hn⟩,hs⟩,ha⟩,hlo⟩,hhi⟩,_⟩:=h
 have hop:¬ (x.op<(if x.k==6 then 3 else if x.k==5 then 1 else 0)∨(if x.k==6 then 16 else if x.k==5 then 2 else 0)<x.op):=fun hc=>by
  rw[numbersX,if_pos hc] at hn
  cases hn
 have hnn:(if x.k==1 then decide (0≤x.n) else if(x.k==2 || x.k==13) then(x.n==0 || x.n==1) else x.n==0)=true:=by
  rw[numbersX,if_neg hop] at hn;exact hn
 simp only[armsX,Bool.and_eq_true] at ha;refine⟨h1,h2,fun a b=>?_,fun a=>?_,fun a=>?_,fun a b c=>?_,fun a=>?_,fun a=>?_,fun a b c d e f=>?_,fun a=>?_,fun a=>?_,fun a=>?_,fun a b=>?_,fun a h=>List.all_eq_true.1 ha.1 a h,fun a=>?_,fun a=>?_,hlo,hhi⟩
 · simp[a,b] at hop
   omega
 · simp[a] at hop
   omega
 · simp[a] at hop
   omega
 · simp[a,b,c] at hnn
   exact hnn
 · simp[a] at hnn
   exact hnn
 · rcases a with a | a <;> simp[a] at hnn <;> exact hnn
 · unfold namedX at hs;rw[show(x.k==3 || x.k==11 || x.k==12 || x.k==13)=false by simp[a,c,d,e],show(x.k==4)=false by simp[b],show(x.k==17)=false by simp[f]] at hs;exact empty_of hs
 · unfold namedX at hs;rw[show(x.k==3 || x.k==11 || x.k==12 || x.k==13)=true by rcases a with a | a | a | a <;> simp[a]] at hs;exact hs
 · unfold namedX at hs;rw[a] at hs;exact hs
 · unfold namedX at hs;rw[a] at hs;exact hs
 · have h3:=ha.2;rw[show(x.k==11)=false by simp[a],show(x.k==12)=false by simp[b]] at h3
   simpa using h3
 · have h3:=ha.2;rw[a] at h3
   simpa using h3
 · have h3:=ha.2;rw[a] at h3
   simp at h3
   exact h3.1.2
def okX(x:Ex):Prop:=∀ p∈partsX x,partX p=true
theorem okX.part{x:Ex}(h:okX x):PartF x:=part_facts (h x (by rw[partsX_eq];exact List.mem_cons_self))
theorem parts_of_mem:∀ {l:List Ex}{a p:Ex},a∈l→p∈partsX a→p∈partssX l
 | x::l,a,p,ha,hp=>by
  simp only[partssX,List.mem_append];rcases List.mem_cons.1 ha with rfl | ha
  · exact .inl hp
  · exact .inr (parts_of_mem ha hp)
theorem okX.sub{x a:Ex}(h:okX x)(ha:a∈x.subs):okX a:=fun p hp=>h p (by rw[partsX_eq];exact List.mem_cons_of_mem _ (parts_of_mem ha hp))
theorem len2{l:List Ex}(h:l.length=2):∃ a b,l=[a,b]:=by
 match l,h with
 | [a,b],_=>exact⟨a,b,rfl⟩
theorem len3{l:List Ex}(h:l.length=3):∃ a b c,l=[a,b,c]:=by
 match l,h with
 | [a,b,c],_=>exact⟨a,b,c,rfl⟩
end
section
end
section
section
variable {p:Rdr}{n:Nat}{x:Ex}{u:List UInt8}
theorem subs_len(hf:PartF x){m:Nat}(h:subsX x=((m:Int),(m:Int))):x.subs.length=m:=by
 have h1:=hf.hi;have h2:=hf.lo;rw[h] at h1 h2;simp only at h1 h2;omega
end
end
section
section
variable {p:Rdr}{n:Nat}{x:Ex}{u:List UInt8}
theorem arm_cases{a:ByteArray}(h:armB a=true):a.data.toList=trueL∨a.data.toList=falseL∨highB a.data.toList=true:=by
 simp only[armB,Bool.or_eq_true,Lib.toList_data,beq_iff_eq] at h;rcases h with(h | h) | h
 · exact .inr (.inr h)
 · exact .inl h
 · exact .inr (.inl h)
end
end
section
section
variable {p:Rdr}{n:Nat}{x:Ex}{u:List UInt8}
end
theorem sameT_refl(l:List ByteArray):sameT l l=true:=by simp[sameT]
theorem right_ok{x:Ex}(h:rightX x=true):okX x:=by
 simp only[rightX,Bool.and_eq_true] at h;exact fun p hp=>List.all_eq_true.1 h.2 p hp
end
section
def NumP(p:Ex):Prop:=p.s.size≤1000∧-9223372036854775808≤p.n∧p.n≤9223372036854775807
theorem low_len{l:List UInt8}(h:lowB l=true):l.length≤12:=by
 simp only[lowB,nameB,Bool.and_eq_true,decide_eq_true_eq] at h;exact h.1.1.1.2
theorem high_len{l:List UInt8}(h:highB l=true):l.length≤12:=by
 simp only[highB,nameB,Bool.and_eq_true,decide_eq_true_eq] at h;exact h.1.1.2
theorem arm_len{a:ByteArray}(h:armB a=true):a.data.toList.length≤12:=by
 rcases arm_cases h with h | h | h
 · rw[h];decide
 · rw[h];decide
 · exact high_len h
def lensT(t:List (List UInt8)):Nat:=(t.map List.length).sum
theorem joinC_len:∀ t:List (List UInt8),(joinC t).length≤lensT t+2*t.length
 | []=>by simp[joinC,lensT]
 | [x]=>by simp[joinC,lensT]
 | x::y::l=>by
  have:=joinC_len (y::l);simp only[joinC,lensT,List.length_append,List.length_cons,List.map_cons,List.sum_cons] at this ⊢;omega
theorem armsT_len:∀ (arms t:List (List UInt8)),(∀ a∈arms,a.length≤12)→(armsT arms t).length≤lensT t+20*t.length
 | [],t,_=>by simp[armsT]
 | _::_,[],_=>by simp[armsT]
 | a::arms,x::t,h=>by
  have h1:=h a (by simp);have:=armsT_len arms t (fun b hb=>h b (by simp[hb]));simp only[armsT,lensT,List.length_append,List.length_cons,List.map_cons,List.sum_cons] at this ⊢;omega
theorem gT_len(t:List (List UInt8))(i:Nat):(gT t i).length≤lensT t:=by
 unfold gT
 induction t generalizing i with
 | nil=>simp
 | cons x t ih=>
  cases i with
  | zero=>simp[lensT]
  | succ i=>
   have:=ih i;simp only[List.getElem?_cons_succ,lensT,List.map_cons,List.sum_cons] at this ⊢;omega
theorem lensT_take(t:List (List UInt8))(n:Nat):lensT (t.take n)≤lensT t:=by
 have:lensT (t.take n)+lensT (t.drop n)=lensT t:=by
  unfold lensT;rw[← List.sum_append,← List.map_append,List.take_append_drop]
 omega
theorem lensT_at:∀ (t:List (List UInt8)) (k:Nat),lensT (t.take k)+(gT t k).length≤lensT t
 | [],k=>by simp[lensT,gT]
 | x::t,0=>by simp[lensT,gT]
 | x::t,k+1=>by
  have:=lensT_at t k;simp only[lensT,gT,List.take_succ_cons,List.map_cons,List.sum_cons,List.getElem?_cons_succ] at this ⊢;omega
theorem lens_subs:∀ l:List Ex,(∀ y∈l,(textL y).length≤1300*sizeX y)→lensT (l.map textL)≤1300*sizesX l
 | [],_=>by simp[lensT,sizesX]
 | x::l,h=>by
  have h1:=h x (by simp);have:=lens_subs l fun y hy=>h y (by simp[hy]);simp only[lensT,List.map_cons,List.sum_cons,sizesX] at this ⊢;omega
theorem two_len(a b:List UInt8):lensT [a,b]=a.length+b.length:=by simp[lensT]
theorem three_len(a b c:List UInt8):lensT [a,b,c]=a.length+(b.length+c.length):=by simp[lensT]
theorem sign_len:∀ k:Nat,k<17→(signsL[k]?.getD []).length≤3:=by decide
theorem on_len{s m:List UInt8}:(onL s m).length≤s.length+m.length+6:=by
 unfold onL
 split
 · omega
 · split
   · simp[notL];omega
   · simp;omega
theorem text_len:∀ x:Ex,okX x→(∀ p∈partsX x,NumP p)→(textL x).length≤1300*sizeX x:=by
 refine size_ind fun x ih hx hp=>?_;have hf:=hx.part;obtain⟨hps,hp0,hp1⟩:=hp x (by rw[partsX_eq];exact List.mem_cons_self)
 have hsub:∀ y∈x.subs,(textL y).length≤1300*sizeX y:=fun y hy=>by
  obtain⟨i,hi,rfl⟩:=List.getElem_of_mem hy;have he:subX x i=x.subs[i]:=by simp[subX,List.getElem?_eq_getElem hi]
  have:=ih i hi;rw[he] at this;exact this (hx.sub hy) fun p hp'=>hp p (by rw[partsX_eq];exact List.mem_cons_of_mem _ (parts_of_mem hy hp'))
 have hl:=lens_subs x.subs hsub;have hsx:=sizeX_eq x;have hssz:x.s.data.toList.length=x.s.size:=by simp
 rw[textL_eq];generalize ht:x.subs.map textL=t at *;have htl:t.length=x.subs.length:=by rw[← ht];simp
 have g0:=gT_len t 0;have key:∀ n:Nat,n≤lensT t+1300→n≤1300*sizeX x:=fun n h=>by omega
 refine key _ ?_;clear key hsub ih;unfold textK
 by_cases h5:x.k=5
 · rw[if_pos h5];split <;> simp[notL] <;> omega
 rw[if_neg h5];have hh:=hf.hi
 by_cases h6:x.k=6
 · rw[if_pos h6];obtain⟨a,b,hab⟩:=len2 (subs_len hf (m:=2) (by simp[subsX,h6]));obtain⟨ho1,ho2⟩:=hf.op6 h6
   have hsg:(signL x.op).length≤3:=by
    unfold signL;rw[if_pos ⟨by omega,ho2⟩];exact sign_len _ (by omega)
   rw[hab] at ht;subst ht
   simp[gT,two_len]
   omega
 rw[if_neg h6]
 by_cases h7:x.k=7
 · rw[if_pos h7];obtain⟨a,b,c,hab⟩:=len3 (subs_len hf (m:=3) (by simp[subsX,h7]));rw[hab] at ht;subst ht
   simp[gT,three_len,ifL,thenL,elseL]
   omega
 rw[if_neg h7]
 by_cases h8:x.k=8
 · rw[if_pos h8];obtain⟨a,b,hab⟩:=len2 (subs_len hf (m:=2) (by simp[subsX,h8]));rw[hab] at ht;subst ht
   simp[gT,two_len,fbyL]
   omega
 rw[if_neg h8]
 by_cases h9:x.k=9
 · rw[if_pos h9];obtain⟨a,b,hab⟩:=len2 (subs_len hf (m:=2) (by simp[subsX,h9]));rw[hab] at ht;subst ht
   simp[gT,two_len,arrL]
   omega
 rw[if_neg h9]
 by_cases h10:x.k=10
 · rw[if_pos h10];simp[preL];omega
 rw[if_neg h10]
 by_cases h11:x.k=11
 · rw[if_pos h11];have hs:=low_len (hf.low (.inr (.inl h11)))
   have hm:(gT (x.arms.map fun a=>a.data.toList) 0).length≤12:=by
    obtain⟨m,hm⟩:∃ m,x.arms=[m]:=by
     have h:=hf.a11 h11
     match hl:x.arms,h with
     | [m],_=>exact⟨m,rfl⟩
    have:=arm_len (hf.arms m (by rw[hm];simp));rw[hm]
    simpa [gT] using this
   have:=on_len (s:=x.s.data.toList) (m:=gT (x.arms.map fun a=>a.data.toList) 0);simp only[List.length_cons,List.length_append,whenL,List.length_nil];omega
 rw[if_neg h11]
 by_cases h12:x.k=12
 · rw[if_pos h12];have hs:=low_len (hf.low (.inr (.inr (.inl h12))))
   have ha:=armsT_len (x.arms.map fun a=>a.data.toList) t (fun a ha=>by
    obtain⟨m,hm,rfl⟩:=List.mem_map.1 ha;exact arm_len (hf.arms m hm))
   have h6:t.length≤6:=by
    have h1:=hf.a12 h12;rw[show subsX x=((x.arms.length:Int),(x.arms.length:Int)) by simp[subsX,h12]] at hh;simp only at hh;omega
   simp only[List.length_cons,List.length_append,mergeL,List.length_nil];omega
 rw[if_neg h12]
 by_cases h13:x.k=13
 · rw[if_pos h13];have hs:=low_len (hf.low (.inr (.inr (.inr h13))))
   have h7:t.length≤7:=by
    rw[show subsX x=(x.n,6+x.n) by simp[subsX,h13]] at hh;have:=hf.n2 (.inr h13);simp only at hh;omega
   have hj:=joinC_len t;have hj2:=joinC_len (t.take (t.length-1));have hg:lensT (t.take (t.length-1))+(gT t (t.length-1)).length≤lensT t:=lensT_at t _;have htk:(t.take (t.length-1)).length≤7:=by simp;omega
   unfold callT
   split
   · simp only[List.length_cons,List.length_append,everyL,List.length_nil];omega
   · simp only[List.length_cons,List.length_append,List.length_nil];omega
 rw[if_neg h13]
 by_cases h14:x.k=14
 · rw[if_pos h14]
   have h8:t.length≤8:=by
    rw[show subsX x=(1,8) by simp[subsX,h14]] at hh;simp only at hh;omega
   have hj:=joinC_len t;simp only[List.length_cons,List.length_append,List.length_nil];omega
 rw[if_neg h14]
 by_cases h15:x.k=15
 · rw[if_pos h15];obtain⟨a,b,hab⟩:=len2 (subs_len hf (m:=2) (by simp[subsX,h15]));rw[hab] at ht;subst ht
   simp[gT,two_len]
   omega
 rw[if_neg h15]
 by_cases h16:x.k=16
 · rw[if_pos h16];obtain⟨a,b,c,hab⟩:=len3 (subs_len hf (m:=3) (by simp[subsX,h16]));rw[hab] at ht;subst ht
   simp[gT,three_len,withL]
   omega
 rw[if_neg h16];unfold leafT
 by_cases h1:x.k=1
 · rw[if_pos h1];have:=Lib.itoa_length_le x.n hp0 hp1;omega
 rw[if_neg h1]
 by_cases h2:x.k=2
 · rw[if_pos h2];split <;> simp[trueL,falseL] <;> omega
 rw[if_neg h2]
 by_cases h17:x.k=17
 · rw[if_pos h17];simp only[List.length_cons,List.length_append,List.length_nil];omega
 rw[if_neg h17];omega
end
section
inductive PR (α:Type) where
 | ok (a:α) (r:List Tk)
 | bad (r:List Tk)
def PR.bind{α β:Type}(x:PR α)(f:α→List Tk→PR β):PR β:=match x with
 | .ok a r=>f a r
 | .bad r=>.bad r
@[simp] theorem PR.bind_ok{α β:Type}(a:α)(r:List Tk)(f:α→List Tk→PR β):(PR.ok a r).bind f=f a r:=rfl
@[simp] theorem PR.bind_bad{α β:Type}(r:List Tk)(f:α→List Tk→PR β):(PR.bad r:PR α).bind f=.bad r:=rfl
abbrev Psr:=List Tk→PR Ex
def isP(s:List UInt8):List Tk→Bool
 | t::_=>t.s==s && (t.k==1 || t.k==5)
 | []=>false
def needP(s:List UInt8)(r:List Tk):PR Unit:=if isP s r=true then .ok () r.tail else .bad r
def nameP:List Tk→PR (List UInt8)
 | t::r=>if t.k=1∧wordB t.s=false then .ok t.s r else .bad (t::r)
 | []=>.bad []
def armP(r:List Tk):PR (List UInt8):=
 if isP trueL r=true then .ok trueL r.tail
 else if isP falseL r=true then .ok falseL r.tail
 else match r with
  | t::r=>if t.k=2 then .ok t.s r else .bad (t::r)
  | []=>.bad []
def headK:List Tk→Int
 | t::_=>t.k
 | []=>0
def whenP(r:List Tk):PR (List UInt8 × List UInt8):=
 if isP notL r=true then(nameP r.tail).bind fun n r=>.ok (n,falseL) r
 else if headK r=2∨isP trueL r=true∨isP falseL r=true then
  (armP r).bind fun a r=>(needP [40] r).bind fun _ r=>(nameP r).bind fun n r=>(needP [41] r).bind fun _ r=>.ok (n,a) r
 else(nameP r).bind fun n r=>.ok (n,trueL) r
def moreP(ar:Psr):Nat→List Ex→List Tk→PR (List Ex)
 | 0,acc,r=>.ok acc r
 | f+1,acc,r=>if isP [44] r=true then(ar r.tail).bind fun y r=>moreP ar f (acc++[y]) r else .ok acc r
def listP(ar:Psr)(m:List UInt8)(r:List Tk):PR (List Ex):=
 (ar r).bind fun y r=>(moreP ar r.length [y] r).bind fun l r=>(needP m r).bind fun _ r=>.ok l r
def everyP(po:Psr)(s:List UInt8)(l:List Ex)(r:List Tk):PR Ex:=
 if isP everyL r=true then(po r.tail).bind fun y r=>.ok (Ex.mk 13 1 (ofB s) 0 [] (l++[y])) r else .ok (Ex.mk 13 0 (ofB s) 0 [] l) r
def callP(ar po:Psr)(s:List UInt8)(r:List Tk):PR Ex:=
 if isP [41] r=true then everyP po s [] r.tail else(listP ar [41] r).bind fun l r=>everyP po s l r
def armsP(ar:Psr):Nat→List ByteArray→List Ex→List Tk→PR (List ByteArray × List Ex)
 | 0,am,l,r=>.ok (am,l) r
 | f+1,am,l,r=>(armP r).bind fun a r=>(needP [45,62] r).bind fun _ r=>(ar r).bind fun y r=>(needP [41] r).bind fun _ r=>
  if isP [40] r=true then armsP ar f (am++[ofB a]) (l++[y]) r.tail else .ok (am++[ofB a],l++[y]) r
def mergeP(ar:Psr)(r:List Tk):PR Ex:=
 (nameP r).bind fun s r=>(needP [40] r).bind fun _ r=>(armsP ar (r.length+1) [] [] r).bind fun z r=>.ok (Ex.mk 12 0 (ofB s) 0 z.1 z.2) r
def roundP(ar:Psr)(r:List Tk):PR Ex:=
 (ar r).bind fun e r=>
  (if isP withL r=true then(needP [91] r.tail).bind fun _ r=>(ar r).bind fun i r=>(needP [93] r).bind fun _ r=>(needP [61] r).bind fun _ r=>(ar r).bind fun v r=>.ok (Ex.mk 16 0 ByteArray.empty 0 [] [e,i,v]) r
   else .ok e r).bind fun e r=>(needP [41] r).bind fun _ r=>.ok e r
def plainP:List Tk→Option (Ex × List Tk)
 | t::r=>if t.k=3 then some (Ex.mk 1 t.n ByteArray.empty 0 [] [],r)
  else if t.k=2 then some (Ex.mk 4 0 (ofB t.s) 0 [] [],r)
  else if t.k=4 then some (Ex.mk 17 0 (ofB t.s) 0 [] [],r)
  else if t.k=1∧t.s=trueL then some (Ex.mk 2 1 ByteArray.empty 0 [] [],r)
  else if t.k=1∧t.s=falseL then some (Ex.mk 2 0 ByteArray.empty 0 [] [],r)
  else none
 | []=>none
def ifP(ar:Psr)(r:List Tk):PR Ex:=
 (ar r).bind fun a r=>(needP thenL r).bind fun _ r=>(ar r).bind fun b r=>(needP elseL r).bind fun _ r=>(ar r).bind fun c r=>.ok (Ex.mk 7 0 ByteArray.empty 0 [] [a,b,c]) r
def atomP(ar po:Psr)(r:List Tk):PR Ex:=
 match plainP r with
 | some z=>.ok z.1 z.2
 | none=>
  if isP [91] r=true then(listP ar [93] r.tail).bind fun l r=>.ok (Ex.mk 14 0 ByteArray.empty 0 [] l) r
  else if isP [40] r=true then roundP ar r.tail
  else if isP mergeL r=true then mergeP ar r.tail
  else if isP ifL r=true then ifP ar r.tail
  else(nameP r).bind fun s r=>if isP [40] r=true then callP ar po s r.tail else .ok (Ex.mk 3 0 (ofB s) 0 [] []) r
def tailP(ar:Psr):Nat→Ex→List Tk→PR Ex
 | 0,e,r=>.ok e r
 | f+1,e,r=>
  if isP [91] r=true then(ar r.tail).bind fun i r=>(needP [93] r).bind fun _ r=>tailP ar f (Ex.mk 15 0 ByteArray.empty 0 [] [e,i]) r
  else if isP whenL r=true then(whenP r.tail).bind fun z r=>tailP ar f (Ex.mk 11 0 (ofB z.1) 0 [ofB z.2] [e]) r
  else .ok e r
def postP(ar po:Psr)(r:List Tk):PR Ex:=(atomP ar po r).bind fun e r2=>tailP ar (r.length+1) e r2
structure Ps where
 ar:Psr
 fb:Psr
 un:Psr
 po:Psr
def unP(P:Ps)(r:List Tk):PR Ex:=
 if isP [45] r=true then(P.un r.tail).bind fun e r=>.ok (Ex.mk 5 0 ByteArray.empty 1 [] [e]) r
 else if isP notL r=true then(P.un r.tail).bind fun e r=>.ok (Ex.mk 5 0 ByteArray.empty 2 [] [e]) r
 else if isP preL r=true then(P.un r.tail).bind fun e r=>.ok (Ex.mk 10 0 ByteArray.empty 0 [] [e]) r
 else postP P.ar P.po r
def binX(op:Int)(a b:Ex):Ex:=Ex.mk 6 0 ByteArray.empty op [] [a,b]
def signP:List (Int × List UInt8)→List Tk→Int
 | [],_=>0
 | z::l,r=>if isP z.2 r=true then z.1 else signP l r
def chainP(sub:Psr)(ops:List (Int × List UInt8)):Nat→Ex→List Tk→PR Ex
 | 0,e,r=>.ok e r
 | f+1,e,r=>if signP ops r=0 then .ok e r else(sub r.tail).bind fun y r'=>chainP sub ops f (binX (signP ops r) e y) r'
def opsProd:List (Int × List UInt8):=[(5,[42]),(6,[47]),(7,[109,111,100])]
def opsSum:List (Int × List UInt8):=[(3,[43]),(4,[45])]
def opsCmp:List (Int × List UInt8):=[(11,[61]),(12,[60,62]),(13,[60]),(14,[60,61]),(15,[62]),(16,[62,61])]
def opsAnd:List (Int × List UInt8):=[(8,[97,110,100])]
def opsOr:List (Int × List UInt8):=[(9,[111,114]),(10,[120,111,114])]
def prodP(P:Ps)(r:List Tk):PR Ex:=(unP P r).bind fun e r=>chainP (unP P) opsProd (r.length+1) e r
def sumP(P:Ps)(r:List Tk):PR Ex:=(prodP P r).bind fun e r=>chainP (prodP P) opsSum (r.length+1) e r
def cmpP(P:Ps)(r:List Tk):PR Ex:=(sumP P r).bind fun e r=>chainP (sumP P) opsCmp 1 e r
def andP(P:Ps)(r:List Tk):PR Ex:=(cmpP P r).bind fun e r=>chainP (cmpP P) opsAnd (r.length+1) e r
def orP(P:Ps)(r:List Tk):PR Ex:=(andP P r).bind fun e r=>chainP (andP P) opsOr (r.length+1) e r
def fbyP(P:Ps)(r:List Tk):PR Ex:=
 (orP P r).bind fun e r=>if isP fbyL r=true then(P.fb r.tail).bind fun y r=>.ok (Ex.mk 8 0 ByteArray.empty 0 [] [e,y]) r else .ok e r
def arrowP(P:Ps)(r:List Tk):PR Ex:=
 (fbyP P r).bind fun e r=>if isP arrL r=true then(P.ar r.tail).bind fun y r=>.ok (Ex.mk 9 0 ByteArray.empty 0 [] [e,y]) r else .ok e r
def psN:Nat→Ps
 | 0=>⟨.bad,.bad,.bad,.bad⟩
 | n+1=>⟨arrowP (psN n),fbyP (psN n),unP (psN n),postP (psN n).ar (psN n).po⟩
theorem isP_cons{s:List UInt8}{r:List Tk}(h:isP s r=true):∃ t r',r=t::r'∧t.s=s∧(t.k=1∨t.k=5):=by
 match r,h with
 | t::r',h=>
  simp only[isP,Bool.and_eq_true,Bool.or_eq_true,beq_iff_eq] at h;exact⟨t,r',rfl,h.1,h.2⟩
end
section
open Go.RowKit Go.Shelf
attribute [local go_sem] Oper.semAt_some
theorem roundAnyDepth{F:Fence}(hd:F.depth=none){m m':Nat}{P:Program}{l:Nat}{f:FuncId}{tmps:Array Value}{assign body:Code}{w:World}{R:Ending→World→Prop}
 (h:RoundIn F m P l f tmps assign body w R):RoundIn F m' P l f tmps assign body w R:=⟨h.1,fun c cs _=>h.2 c cs (fun d h=>by rw[hd] at h;cases h)⟩
theorem yieldAnyDepth{F:Fence}(hd:F.depth=none){m:Nat}(m':Nat){P:Program}{l:Nat}{args:Array Value}{W:World}{R:Ending→World→Prop}(h:YieldAt F m P l args W R):YieldAt F m' P l args W R:=by
 obtain⟨fn,tmps,assign,body,hy,hR⟩:=h;exact⟨fn,tmps,assign,body,hy,roundAnyDepth hd hR⟩
theorem grownBy_of_below'{W W':World}(h:Below W.heap.size W W'):W.grownBy W' none:=⟨h.os,h.tape,h.output,h.size,fun i hi _=>h.block i hi⟩
structure Pt where
 x:Ex
 A:Option Addr
 ca:Nat
 B:Option Addr
 cb:Nat
def encP(p:Pt):Array Value:=#[.agg (exA p.x p.A p.ca p.B p.cb)]
abbrev PtIn(w0:World)(e:Ex):={ p:Pt // rdX w0 p.x p.A p.B∧p.x∈partsX e }
def exs{w0:World}{e:Ex}(l:List (PtIn w0 e)):List Ex:=l.map fun p=>p.1.x
theorem exs_app{w0:World}{e:Ex}(a b:List (PtIn w0 e)):exs (a++b)=exs a++exs b:=by simp[exs]
theorem exs_len{w0:World}{e:Ex}(a:List (PtIn w0 e)):(exs a).length=a.length:=by simp[exs]
def KeepsE(W W':World):Prop:=∀ (k:Nat) (cs:Array Value) (h:Nat × Nat),W.heap[k]?=some (Obj.cells cs 26 h)→W'.heap[k]?=some (Obj.cells cs 26 h)
theorem KeepsE.refl(W:World):KeepsE W W:=fun _ _ _ h=>h
theorem KeepsE.trans{A B C:World}(h:KeepsE A B)(k:KeepsE B C):KeepsE A C:=fun i cs t e=>k i cs t (h i cs t e)
theorem memPartssI:∀ {l:List Ex}{i:Nat}{q:Ex},i<l.length→q∈partsX (l[i]?.getD default)→q∈partssX l
 | [],i,q,h,_=>absurd h (by simp)
 | x::l,0,q,_,hq=>by
  simp only[List.getElem?_cons_zero,Option.getD_some] at hq;simp only[partssX];exact List.mem_append_left _ hq
 | x::l,i+1,q,h,hq=>by
  simp only[List.getElem?_cons_succ] at hq;simp only[partssX];exact List.mem_append_right _ (memPartssI (by simpa using h) hq)
theorem KeepsE.of_below{W W':World}(h:Below W.heap.size W W'):KeepsE W W':=fun k cs t e=>(h.block k (Array.getElem?_eq_some_iff.1 e).1).trans e
theorem KeepsE.cell{W W':World}(h:KeepsE W W'){k:Nat}{cs:Array Value}(e:W.heap[k]?=some (Obj.cells cs 26))(j:Nat):W'.cell? ⟨k,j,none⟩=W.cell? ⟨k,j,none⟩ :=
 World.cell?_of_block (a:=⟨k,j,none⟩) ((h k cs _ e).trans e.symm)
def KpE(n:Nat)(W W':World):Prop:=Below n W W'∧KeepsE W W'
theorem KpE.refl(n:Nat)(W:World):KpE n W W:=⟨Below.refl _ _,KeepsE.refl _⟩
theorem KpE.trans{n:Nat}{A B C:World}(h:KpE n A B)(k:KpE n B C):KpE n A C:=⟨h.1.trans k.1,h.2.trans k.2⟩
theorem KpE.of_below{n:Nat}{W W':World}(h:Below W.heap.size W W')(hn:n≤W.heap.size):KpE n W W':=⟨h.mono hn,KeepsE.of_below h⟩
theorem kpE_b{n₀:Nat}{w:World}(hn:n₀≤w.heap.size)(W:World)(l:Nat)(o o':Obj)(hl:w.heap.size≤l)(h:W.heap[l]?=some o)(hc:o.isCells=false)(hw:o.isWalk=false):KpE n₀ W (W.putObj l o'):=
 ⟨belowK_b hn W l o o' hl h hc hw,fun k cs t e=>by
  refine(World.putObj_heap_other (fun e'=>?_)).trans e;subst e';rw[h] at e;injection e with e;subst e
  cases hc⟩
theorem each_in(l N D:Nat)(e0:Ex)(w0:World)(J Jx:List (PtIn w0 e0)→World→Prop)(hJ:AbidesFrom D J)
 (hY:∀ m pre (x:PtIn w0 e0) W,J pre W→pre.length<N→YieldAt Fence.wide m Tryz.prog l (encP x.1) W fun e W' =>
  (e=.returned (.bool true)∧J (pre++[x]) W'∧KpE w0.heap.size W W')∨(e=.returned (.bool false)∧Jx (pre++[x]) W')):
 ∀ (x:Ex) (A:Option Addr) (ca:Nat) (B:Option Addr) (cb n:Nat) (pre:List (PtIn w0 e0)) (W:World),rdX w0 x A B→(∀ q∈partsX x,q∈partsX e0)→Below w0.heap.size w0 W→J pre W→pre.length+sizeX x≤N →
  CallsIn Fence.wide n Tryz.prog 92 #[.agg (exA x A ca B cb),.func (.yield l) #[] #[]] W fun e W' =>
   (e=.returned (.bool true)∧∃ ps:List (PtIn w0 e0),exs ps=partsX x∧J (pre++ps) W'∧KpE w0.heap.size W W')∨(e=.returned (.bool false)∧∃ ps:List (PtIn w0 e0),exs ps <+: partsX x∧Jx (pre++ps) W'):=by
 refine size_ind fun x ih A ca B cb n pre W hr hin hb0 hJ0 hN=>?_;have hJB:∀ pre W W',Below W.heap.size W W'→J pre W→J pre W':=fun pre W W' h hj=>hJ _ _ _ none hj (grownBy_of_below' h) (fun r e=>by cases e);have hsx:=sizeX_eq x;have hmx:=hr.subs.max;have hpx:=partsX_eq x;have HIH:=Hd ih;have HIN:=Hd hin;have HB0:=Hd hb0;have HR0:=Hd hr;have HJB:=Hd hJB;have HPX:=Hd hpx;have hmem:x∈partsX e0:=hin x (by rw[hpx];exact List.mem_cons_self);have HSUBS:=Hd fun k (hk:k<x.subs.length) (q:Ex) (hq:q∈partsX (subX x k))=>hin q (by rw[hpx];exact List.mem_cons_of_mem _ (memPartssI hk hq));have HSN:=Hd fun i (hi:i<x.subs.length)=>sizes_snoc hi;have HPN:=Hd fun i (hi:i<x.subs.length)=>partss_snoc hi;have HLE:=Hd fun i=>sizes_take x.subs i;have HTL:=Hd (List.take_length (l:=x.subs));have HTP:=Hd fun k=>(show partssX (x.subs.take k) <+: partssX x.subs from⟨partssX (x.subs.drop k),by rw[← partssX_app,List.take_append_drop]⟩);have hbA:Below W.heap.size W (W.alloc (.cells (exA x A ca B cb) 26)):=(Below.refl _ _).alloc (Nat.le_refl _) _;have hblk:(W.alloc (.cells (exA x A ca B cb) 26)).heap[W.heap.size]?=some (.cells (exA x A ca B cb) 26):=World.alloc_heap_new _ _;obtain⟨xp,hxp⟩:∃ xp:PtIn w0 e0,xp.1=⟨x,A,ca,B,cb⟩:=⟨⟨_,hr,hmem⟩,rfl⟩;have hxx:exs [xp]=[x]:=by simp[exs,hxp]
 have HXX:=Hd hxx;obtain⟨fn,tmps,assign,body,hy,hR⟩:=hY (n-1) pre xp _ (hJB _ _ _ hbA hJ0) (by have:=size_pos x;omega);obtain⟨_,_,_,hcell⟩:=box_facts W x A ca B cb _ rfl (hr.below hb0);obtain⟨q0,q1,q2,q3,q4,q5⟩:=Sx (hcell _ (Below.refl _ _));have HBK:=Hd hblk;have HBA:=Hd hbA;have HJ0:=Hd hJ0;clear hJ0 hr hin hb0 ih hpx hmem hcell hblk hbA hJB hY hxx;rw[hxp] at hy
 dsimp only[encP] at hy
 unfold exA at hy q0 q1 q2 q3 q4 q5 HBK HBA HIH;have HR:=Hd hR;clear hR;unfold exA at HR ⊢;clear hxp;generalize hlen:x.subs.length=len at *;refine callsIn_of_wp Tryz.func92 rfl trivial ?_ rfl;simp only[Tryz.ntmps92,List.size_toArray,List.length_cons,List.length_nil,Nat.reduceAdd,Nat.reduceSub,Array.replicate_succ,Array.replicate_zero,List.push_toArray,List.append_toArray,List.nil_append,List.cons_append]
 gi_wp2_with fail
 refine⟨fun h=>(by cases h),HR.out.mono ?_⟩;rintro e W3 (⟨rfl,hJ3,hk3⟩|⟨rfl,hJx3⟩)
 · have HJ3:=Hd hJ3;have HK3:=Hd (show KpE w0.heap.size W W3 from⟨(HBA.out.mono HB0.out.size).trans hk3.1,(KeepsE.of_below HBA.out).trans hk3.2⟩);have r5:=(hk3.2.cell HBK.out 5).trans q5;clear q0 q1 q2 q3 q4 q5 hJ3 hk3 hy
   gi_wp2_with fail
   gi_loopw [14] (fun i wr=>∃ (k:Nat) (ps:List (PtIn w0 e0)),k≤len∧i=.int .i64 k∧exs ps=x::partssX (x.subs.take k)∧J (pre++ps) wr∧KpE w0.heap.size W wr) (fun i _=>len-(intOf i).toNat)
   case atStart=>exact⟨0,[xp],Nat.zero_le _,rfl,by rw[HXX.out];simp[partssX],HJ3.out,HK3.out⟩
   case round=>
    obtain⟨k,ps,hk,rfl,hps,hJk,hkp⟩:=hrel;have HPS:=Hd hps;have HJK:=Hd hJk;have HKP:=Hd hkp;have HBW:=Hd (HB0.out.trans hkp.1);have hpl:ps.length=1+sizesX (x.subs.take k):=by rw[← exs_len,hps,List.length_cons,partssX_len];omega
    have hle:=HLE.out k;clear hps hJk hkp
    by_cases hlt:k<len
    · obtain⟨b,off,rfl,hb,hat⟩:=HR0.out.sub (i:=k) (by omega);obtain⟨A',ca',B',cb',hrg,hrd⟩:=hat k (by omega);obtain⟨c0,c1,c2,c3,c4,c5⟩:=rangeAt_six (rangeAt_keep hrg hb fun p hp=>HBW.out.cell hp);obtain⟨hbE,_,_,hcE⟩:=box_facts wr (subX x k) A' ca' B' cb' _ rfl (hrd.below HBW.out);have HBE:=Hd hbE;obtain⟨d0,d1,d2,d3,d4,d5⟩:=Sx (hcE _ (Below.refl _ _));have hsn:=HSN.out k (by omega);have hle2:=HLE.out (k+1);have HPNK:=Hd (HPN.out k (by omega));have hBWE:=HBW.out.trans (hbE.mono HBW.out.size);have HCL:=Hd (HIH.out k (by omega) A' ca' B' cb' (n-1) (pre++ps) _ hrd (HSUBS.out k (by omega)) hBWE (HJB.out _ _ _ hbE HJK.out) (by simp;omega));clear hat hrg hrd hbE hcE hBWE;unfold exA at HCL HBE d0 d1 d2 d3 d4 d5;generalize subX x k=y at *
      gi_wp2_with fail
      refine⟨trivial,fun h=>(by cases h),(HCL.out).mono ?_⟩;rintro e W4 (⟨rfl,qs,hqs,hJ4,hk4⟩|⟨rfl,qs,hqs,hJx4⟩)
      · have HQS:=Hd hqs;have HJ4:=Hd hJ4;have HK4:=Hd (show KpE w0.heap.size W W4 from HKP.out.trans (((KpE.of_below HBE.out HBW.out.size)).trans hk4));clear hqs hJ4 hk4
        gi_wp2_with fail
        go_roundw
        case rel=>exact⟨k+1,ps++qs,by omega,by go_num,by rw[exs_app,HPS.out,HQS.out,HPNK.out];rfl,by rw[← List.append_assoc];exact HJ4.out,HK4.out⟩
        case measure=>simp[intOf];omega
      · have HQS:=Hd hqs;have HJ4:=Hd hJx4;have HTK:=Hd (HTP.out (k+1));clear hqs hJx4
        gi_wp2_with fail
        go_ret
        refine .inr ⟨rfl,ps++qs,?_,by rw[← List.append_assoc];exact HJ4.out⟩;rw[exs_app,HPS.out,HPX.out,List.cons_append];refine(List.prefix_cons_inj _).2 (List.IsPrefix.trans ?_ HTK.out);rw[HPNK.out];exact(List.prefix_append_right_inj _).2 HQS.out
    · have hkl:k=len:=by omega
      subst hkl;have HE:=Hd (hlen ▸ HTL.out:x.subs.take k=x.subs)
      gi_wp2_with fail
      go_ret
      refine .inl ⟨rfl,ps,?_,HJK.out,HKP.out⟩;rw[HPS.out,HE.out,HPX.out]
 · have HJ3:=Hd hJx3;clear hJx3
   gi_wp2_with fail
   go_ret
   refine .inr ⟨rfl,[xp],?_,HJ3.out⟩;rw[HXX.out,HPX.out];exact⟨_,rfl⟩
theorem each_stops(n Bs:Nat)(x:Ex)(A:Option Addr)(ca:Nat)(B:Option Addr)(cb:Nat)(w0 w:World)(hr:rdX w0 x A B)(hb:Below w0.heap.size w0 w)(hbx:w.heap[Bs]?=some (Obj.cells (exA x A ca B cb) 26)):
 SeqStopsK Fence.wide n Tryz.prog 91 #[.pointer (some ⟨Bs,0,none⟩)] (fun p:PtIn w0 x=>encP p.1) (KpE w0.heap.size) (fun ys=>exs ys=partsX x) (fun pre=>exs pre <+: partsX x) (sizeX x) w:=fun l J Jx W hW hJ _ hY h0=>by
 have hbl:=(Array.getElem?_eq_some_iff.1 hbx).1;have hblk:=(hW.block Bs hbl).trans hbx;have HCL:=Hd (each_in l (sizeX x) W.heap.size x w0 J Jx hJ (fun m pre p W1 hj hl=>yieldAnyDepth rfl m (hY pre p W1 hj hl)) x A ca B cb (n-1) [] W hr (fun q hq=>hq) (hb.trans (hW.mono hb.size)) h0 (by simp));have hcell:∀ j,W.cell? ⟨Bs,j,none⟩=(exA x A ca B cb)[j]?:=fun j=>by simp[World.cell?,hblk]
 obtain⟨q0,q1,q2,q3,q4,q5⟩:=Sx hcell;clear hcell hbx hblk hY hr hW hJ h0;unfold exA at HCL q0 q1 q2 q3 q4 q5;refine callsIn_of_wp Tryz.func91 rfl trivial ?_ rfl;simp only[Tryz.ntmps91,List.size_toArray,List.length_cons,List.length_nil,Nat.reduceAdd,Nat.reduceSub,Array.replicate_succ,Array.replicate_zero,List.push_toArray,List.append_toArray,List.nil_append,List.cons_append]
 gi_wp2_with fail
 refine⟨trivial,fun h=>(by cases h),(HCL.out).mono ?_⟩;rintro e W4 (⟨rfl,qs,hqs,hJ4,hk4⟩|⟨rfl,qs,hqs,hJx4⟩)
 · have HQS:=Hd hqs;have HJ4:=Hd hJ4;clear hqs hJ4 hk4
   gi_wp2_with fail
   go_end0
   exact⟨⟨_,rfl⟩,.inl ⟨qs,HQS.out,HJ4.out⟩⟩
 · have HQS:=Hd hqs;have HJ4:=Hd hJx4;clear hqs hJx4
   gi_wp2_with fail
   go_end0
   exact⟨⟨_,rfl⟩,.inr ⟨qs,HQS.out,HJ4.out⟩⟩
end
section
open Go.RowKit Go.Shelf
attribute [local go_sem] Oper.semAt_some
theorem exEach(x:Ex)(A:Option Addr)(ca:Nat)(B:Option Addr)(cb:Nat)(w:World)(hr:rdX w x A B):
 Calls Tryz.prog 53 #[.agg (exA x A ca B cb)] w fun r w'=>r=.returned (.func (.func 91) #[] #[.pointer (some ⟨w.heap.size,0,none⟩)])∧w'=w.alloc (Obj.cells (exA x A ca B cb) 26):=by
 have hmk:∀ fn first cap w,(Instr.makeFunc fn first cap).run Tryz.prog w=.ok (.func fn first cap) w:=fun _ _ _ _=>rfl
 clear hr;unfold exA
 go_enter Tryz.func53,Tryz.ntmps53
 go_wp2_with fail
 go_ret
 exact⟨rfl,rfl⟩
theorem KeepsE.setCell{W:World}{B:Nat}{t:TypeId}{v:Value}(h:Boxed W B t v)(ht:t≠26)(u:Value):KeepsE W (W.setCell ⟨B,0,none⟩ u):=fun k cs hh e=>by
 have hne:some k≠some B:=by
  intro e';injection e' with e';subst e';rw[show W.heap[k]?=_ from h] at e;injection e with e;injection e with _ e;exact ht e
 have hk:=(Array.getElem?_eq_some_iff.1 e).1;exact((grownBy_setCell' W B u).block k hk hne).trans e
end
section
open Go.RowKit Go.Shelf
attribute [local go_sem] Oper.semAt_some
theorem blkOwn{β:Type}(B:Nat)(cs:Array Value)(t:TypeId):Own (fun(_:β) W=>W.heap[B]?=some (Obj.cells cs t)):=fun s X Y row hs hg hrow=>
 (hg.block B (Array.getElem?_eq_some_iff.1 hs).1 (fun e'=>by obtain⟨o,ho,hc⟩:=hrow B e'.symm;rw[hs] at ho;cases ho;cases hc)).trans hs
theorem KeepsE.alloc(W:World)(o:Obj):KeepsE W (W.alloc o):=KeepsE.of_below ((Below.refl _ _).alloc (Nat.le_refl _) o)
end
end Go.Proofs.YtokiaaapgkdpmaaGreatDoor
