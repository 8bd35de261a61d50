/- Parts of the proof: ShG, PaM, PaB. Conditions: each theorem's own. -/
import Derived.Lib.ItoaLen
import Derived.Test.YtokiaaapgkdpmaaGreatDoorV03
import Derived.Test.YtokiaaapgkdpmaaGreatDoorV07
namespace Go.Proofs.YtokiaaapgkdpmaaGreatDoor
set_option linter.unusedVariables false
set_option linter.unusedSimpArgs false
set_option maxRecDepth 100000
set_option maxHeartbeats 40000000
section
def ofB(l:List UInt8):ByteArray:=⟨l.toArray⟩
theorem ofB_data(l:List UInt8):(ofB l).data.toList=l:=by simp [ofB]
theorem ofB_self(s:ByteArray):ofB s.data.toList=s:=by cases s;simp [ofB]
def trueL:List UInt8:=[116,114,117,101]
def falseL:List UInt8:=[102,97,108,115,101]
def notL:List UInt8:=[110,111,116]
def ifL:List UInt8:=[105,102]
def thenL:List UInt8:=[116,104,101,110]
def elseL:List UInt8:=[101,108,115,101]
def preL:List UInt8:=[112,114,101]
def mergeL:List UInt8:=[109,101,114,103,101]
def fbyL:List UInt8:=[102,98,121]
def whenL:List UInt8:=[119,104,101,110]
def withL:List UInt8:=[119,105,116,104]
def everyL:List UInt8:=[101,118,101,114,121]
def arrL:List UInt8:=[45,62]
def signsL:List (List UInt8):=[[],[45],[110,111,116],[43],[45],[42],[47],[109,111,100],[97,110,100],[111,114],[120,111,114],[61],[60,62],[60],[60,61],[62],[62,61]]
def signL(op:Int):List UInt8:=if 1≤op∧op≤16 then signsL[op.toNat]?.getD [] else []
def onL(name arm:List UInt8):List UInt8:=if arm=trueL then name else if arm=falseL then notL++32::name else arm++40::(name++[41])
def joinC:List (List UInt8)→List UInt8
 | []=>[]
 | [x]=>x
 | x::y::l=>x++44::32::joinC (y::l)
def gT(t:List (List UInt8)) (i:Nat):List UInt8:=t[i]?.getD []
def armsT:List (List UInt8)→List (List UInt8)→List UInt8
 | a::arms,x::t=>32::40::(a++32::45::62::32::(x++41::armsT arms t))
 | _,_=>[]
def callT(n:Int) (s:List UInt8) (t:List (List UInt8)):List UInt8:=
 if n=1 then 40::(s++40::(joinC (t.take (t.length-1))++41::32::(everyL++32::(gT t (t.length-1)++[41])))) else s++40::(joinC t++[41])
def leafT(k n:Int) (s:List UInt8):List UInt8:=
 if k=1 then Lib.itoa n else if k=2 then(if n=1 then trueL else falseL) else if k=17 then 39::(s++[39]) else s
def textK(k n:Int) (s:List UInt8) (op:Int) (arms t:List (List UInt8)):List UInt8:=
 if k=5 then(if op=1 then 40::45::(gT t 0++[41]) else 40::(notL++32::(gT t 0++[41])))
 else if k=6 then 40::(gT t 0++32::(signL op++32::(gT t 1++[41])))
 else if k=7 then 40::(ifL++32::(gT t 0++32::(thenL++32::(gT t 1++32::(elseL++32::(gT t 2++[41]))))))
 else if k=8 then 40::(gT t 0++32::(fbyL++32::(gT t 1++[41])))
 else if k=9 then 40::(gT t 0++32::(arrL++32::(gT t 1++[41])))
 else if k=10 then 40::(preL++32::(gT t 0++[41]))
 else if k=11 then 40::(gT t 0++32::(whenL++32::(onL s (gT arms 0)++[41])))
 else if k=12 then 40::(mergeL++32::(s++(armsT arms t++[41])))
 else if k=13 then callT n s t
 else if k=14 then 91::(joinC t++[93])
 else if k=15 then gT t 0++91::(gT t 1++[93])
 else if k=16 then 40::(gT t 0++32::(withL++32::91::(gT t 1++93::32::61::32::(gT t 2++[41]))))
 else leafT k n s
mutual
def textL:Ex→List UInt8
 | .mk k n s op arms subs=>textK k n s.data.toList op (arms.map fun a=>a.data.toList) (textsL subs)
def textsL:List Ex→List (List UInt8)
 | []=>[]
 | x::l=>textL x::textsL l
end
theorem textsL_map:∀ l:List Ex,textsL l=l.map textL
 | []=>rfl
 | x::l=>by simp only [textsL,List.map_cons,textsL_map l]
theorem textL_eq(x:Ex):textL x=textK x.k x.n x.s.data.toList x.op (x.arms.map fun a=>a.data.toList) (x.subs.map textL):=by
 cases x;simp only [textL,textsL_map,Ex.k,Ex.n,Ex.s,Ex.op,Ex.arms,Ex.subs]
def cutOff:List UInt8→List UInt8→Option (List UInt8)
 | [],l=>some l
 | c::m,d::l=>if c=d then cutOff m l else none
 | _::_,[]=>none
def nmL(l:List UInt8):List UInt8:=l.takeWhile fun c=>nameC (c.toNat:Int)
def dgL(l:List UInt8):List UInt8:=l.takeWhile fun c=>digitB (c.toNat:Int)
def dval(l:List UInt8):Nat:=l.foldl (fun a d=>a*10+(d.toNat-48)) 0
abbrev Rdr:=List UInt8→Option (Ex × List UInt8)
def items(p:Rdr):Nat→List UInt8→Option (List Ex × List UInt8)
 | 0,_=>none
 | n+1,l=>(p l).bind fun y=>match cutOff [44,32] y.2 with
  | some r=>(items p n r).map fun z=>(y.1::z.1,z.2)
  | none=>some ([y.1],y.2)
def word(p:Rdr) (n:Nat) (l:List UInt8):Option (Ex × List UInt8):=
 if nmL l=trueL then some (Ex.mk 2 1 ByteArray.empty 0 [] [],l.drop (nmL l).length)
 else if nmL l=falseL then some (Ex.mk 2 0 ByteArray.empty 0 [] [],l.drop (nmL l).length)
 else if highB (nmL l)=true then some (Ex.mk 4 0 (ofB (nmL l)) 0 [] [],l.drop (nmL l).length)
 else match cutOff [40] (l.drop (nmL l).length) with
  | some r=>match cutOff [41] r with
   | some r2=>some (Ex.mk 13 0 (ofB (nmL l)) 0 [] [],r2)
   | none=>(items p n r).bind fun y=>(cutOff [41] y.2).map fun r2=>(Ex.mk 13 0 (ofB (nmL l)) 0 [] y.1,r2)
  | none=>some (Ex.mk 3 0 (ofB (nmL l)) 0 [] [],l.drop (nmL l).length)
def atX(a i:Ex):Ex:=Ex.mk 15 0 ByteArray.empty 0 [] [a,i]
def post(p:Rdr):Nat→Ex→Rdr
 | 0,x,r=>some (x,r)
 | n+1,x,r=>match cutOff [91] r with
  | some r1=>(p r1).bind fun y=>(cutOff [93] y.2).bind fun r2=>post p n (atX x y.1) r2
  | none=>some (x,r)
end
section
def clean(u:List UInt8):Prop:=u=[]∨∃ c r,u=c::r∧(c=32∨c=41∨c=44∨c=91∨c=93)
def stopU(u:List UInt8):Prop:=u=[]∨∃ c r,u=c::r∧(c=32∨c=41∨c=44∨c=93)
def noNm(u:List UInt8):Prop:=u=[]∨∃ c r,u=c::r∧nameC (c.toNat:Int)=false
theorem stopU.clean{u:List UInt8}(h:stopU u):clean u:=by
 rcases h with rfl | ⟨c,r,rfl,h⟩
 · exact .inl rfl
 · exact .inr ⟨c,r,rfl,by rcases h with h | h | h | h <;> simp [h]⟩
theorem clean.noNm{u:List UInt8}(h:clean u):noNm u:=by
 rcases h with rfl | ⟨c,r,rfl,h⟩
 · exact .inl rfl
 · exact .inr ⟨c,r,rfl,by rcases h with rfl | rfl | rfl | rfl | rfl <;> decide⟩
theorem noNm_cons{c:UInt8}(r:List UInt8) (h:nameC (c.toNat:Int)=false):noNm (c::r):=.inr ⟨c,r,rfl,h⟩
theorem twApp{p:UInt8→Bool}:∀ {a u:List UInt8},(∀ c∈a,p c=true)→(u=[]∨∃ c r,u=c::r∧p c=false)→(a++u).takeWhile p=a
 | [],u,_,h=>by
  rcases h with rfl | ⟨c,r,rfl,hc⟩
  · rfl
  · simp [List.takeWhile_cons,hc]
 | x::a,u,ha,h=>by
  have hx:=ha x (by simp)
  simp [List.takeWhile_cons,hx,twApp (a:=a) (fun c hc=>ha c (by simp [hc])) h]
def nmsB(l:List UInt8):Bool:=l.all fun c=>nameC (c.toNat:Int)
theorem nm_app{a u:List UInt8}(ha:nmsB a=true) (hu:noNm u):nmL (a++u)=a:=twApp (p:=fun c=>nameC (c.toNat:Int)) (fun c hc=>List.all_eq_true.1 ha c hc) hu
theorem low_nms{l:List UInt8}(h:lowB l=true):nmsB l=true:=by
 simp only [lowB,nameB,Bool.and_eq_true] at h;exact h.1.2
theorem high_nms{l:List UInt8}(h:highB l=true):nmsB l=true:=by
 simp only [highB,nameB,Bool.and_eq_true] at h;exact h.2
theorem lowWord{l:List UInt8}(h:lowB l=true):wordB l=false:=by
 simp only [lowB,Bool.and_eq_true,Bool.not_eq_true'] at h;exact h.2
theorem low_ex{l:List UInt8}(h:lowB l=true):∃ c r,l=c::r∧smallB (c.toNat:Int)=true:=by
 cases l with
 | nil=>simp [lowB,nameB] at h
 | cons c r=>
  simp only [lowB,nameB,Bool.and_eq_true] at h;exact⟨c,r,rfl,h.1.1.2⟩
theorem high_ex{l:List UInt8}(h:highB l=true):∃ c r,l=c::r∧greatB (c.toNat:Int)=true:=by
 cases l with
 | nil=>simp [highB,nameB] at h
 | cons c r=>
  simp only [highB,nameB,Bool.and_eq_true] at h;exact⟨c,r,rfl,h.1.2⟩
theorem exEq{x:Ex}{k n op:Int}{s:ByteArray}{arms:List ByteArray}{subs:List Ex}(h1:x.k=k) (h2:x.n=n) (h3:x.s=s) (h4:x.op=op) (h5:x.arms=arms) (h6:x.subs=subs):x=Ex.mk k n s op arms subs:=by
 cases x
 simp only [Ex.k,Ex.n,Ex.s,Ex.op,Ex.arms,Ex.subs] at h1 h2 h3 h4 h5 h6;subst h1 h2 h3 h4 h5 h6;rfl
theorem empty_of{s:ByteArray}(h:(s.toList==[])=true):s=ByteArray.empty:=by
 rw [Lib.toList_data] at h;have h1:s.data.toList=[]:=by simpa using h
 exact ByteArray.ext (Array.ext' h1)
structure PartF (x:Ex):Prop where
 k1:1≤x.k
 k17:x.k≤17
 op0:x.k≠5→x.k≠6→x.op=0
 op5:x.k=5→x.op=1∨x.op=2
 op6:x.k=6→3≤x.op∧x.op≤16
 n0:x.k≠1→x.k≠2→x.k≠13→x.n=0
 n1:x.k=1→0≤x.n
 n2:x.k=2∨x.k=13→x.n=0∨x.n=1
 s0:x.k≠3→x.k≠4→x.k≠11→x.k≠12→x.k≠13→x.k≠17→x.s=ByteArray.empty
 low:x.k=3∨x.k=11∨x.k=12∨x.k=13→lowB x.s.data.toList=true
 high:x.k=4→highB x.s.data.toList=true
 path:x.k=17→pathB x.s.data.toList=true
 a0:x.k≠11→x.k≠12→x.arms=[]
 arms:∀ a∈x.arms,armB a=true
 a11:x.k=11→x.arms.length=1
 a12:x.k=12→x.arms.length≤6
 lo:(subsX x).1≤x.subs.length
 hi:(x.subs.length:Int)≤(subsX x).2
theorem part_facts{x:Ex}(h:partX x=true):PartF x:=by
 simp only [partX,Bool.and_eq_true,decide_eq_true_eq] at h;obtain⟨⟨⟨⟨⟨⟨⟨h1,h2⟩,hn⟩,hs⟩,ha⟩,hlo⟩,hhi⟩,_⟩:=h
 have hop:¬ (x.op<(if x.k==6 then 3 else if x.k==5 then 1 else 0)∨(if x.k==6 then 16 else if x.k==5 then 2 else 0)<x.op):=fun hc=>by
  rw [numbersX,if_pos hc] at hn
  cases hn
 have hnn:(if x.k==1 then decide (0≤x.n) else if(x.k==2 || x.k==13) then(x.n==0 || x.n==1) else x.n==0)=true:=by
  rw [numbersX,if_neg hop] at hn;exact hn
 simp only [armsX,Bool.and_eq_true] at ha;refine⟨h1,h2,fun a b=>?_,fun a=>?_,fun a=>?_,fun a b c=>?_,fun a=>?_,fun a=>?_,fun a b c d e f=>?_,fun a=>?_,fun a=>?_,fun a=>?_,fun a b=>?_,fun a h=>List.all_eq_true.1 ha.1 a h,fun a=>?_,fun a=>?_,hlo,hhi⟩
 · simp [a,b] at hop
   omega
 · simp [a] at hop
   omega
 · simp [a] at hop
   omega
 · simp [a,b,c] at hnn
   exact hnn
 · simp [a] at hnn
   exact hnn
 · rcases a with a | a <;> simp [a] at hnn <;> exact hnn
 · unfold namedX at hs;rw [show(x.k==3 || x.k==11 || x.k==12 || x.k==13)=false by simp [a,c,d,e],show(x.k==4)=false by simp [b],show(x.k==17)=false by simp [f]] at hs;exact empty_of hs
 · unfold namedX at hs;rw [show(x.k==3 || x.k==11 || x.k==12 || x.k==13)=true by rcases a with a | a | a | a <;> simp [a]] at hs;exact hs
 · unfold namedX at hs;rw [a] at hs;exact hs
 · unfold namedX at hs;rw [a] at hs;exact hs
 · have h3:=ha.2;rw [show(x.k==11)=false by simp [a],show(x.k==12)=false by simp [b]] at h3
   simpa using h3
 · have h3:=ha.2;rw [a] at h3
   simpa using h3
 · have h3:=ha.2;rw [a] at h3
   simp at h3
   exact h3.1.2
def okX(x:Ex):Prop:=∀ p∈partsX x,partX p=true
theorem okX.part{x:Ex}(h:okX x):PartF x:=part_facts (h x (by rw [partsX_eq];exact List.mem_cons_self))
theorem parts_of_mem:∀ {l:List Ex}{a p:Ex},a∈l→p∈partsX a→p∈partssX l
 | x::l,a,p,ha,hp=>by
  simp only [partssX,List.mem_append];rcases List.mem_cons.1 ha with rfl | ha
  · exact .inl hp
  · exact .inr (parts_of_mem ha hp)
theorem okX.sub{x a:Ex}(h:okX x) (ha:a∈x.subs):okX a:=fun p hp=>h p (by rw [partsX_eq];exact List.mem_cons_of_mem _ (parts_of_mem ha hp))
theorem len1{l:List Ex}(h:l.length=1):∃ a,l=[a]:=by
 match l,h with
 | [a],_=>exact⟨a,rfl⟩
theorem len2{l:List Ex}(h:l.length=2):∃ a b,l=[a,b]:=by
 match l,h with
 | [a,b],_=>exact⟨a,b,rfl⟩
theorem len3{l:List Ex}(h:l.length=3):∃ a b c,l=[a,b,c]:=by
 match l,h with
 | [a,b,c],_=>exact⟨a,b,c,rfl⟩
theorem digNat{u:Nat}(h:u<10):(UInt8.ofNat (48+u)).toNat=48+u:=by
 rw [UInt8.toNat_ofNat'];exact Nat.mod_eq_of_lt (by omega)
theorem dvalDec(u:Nat):dval (Lib.decDigits u)=u:=by
 induction u using Nat.strongRecOn with
 | ind u ih=>
  by_cases h:u<10
  · rw [Lib.decDigits_one h]
    show 0*10+((UInt8.ofNat (48+u)).toNat-48)=u
    rw [digNat h];omega
  · rw [Lib.decDigits,dif_neg h];have h1:=ih (u / 10) (by omega);unfold dval at h1 ⊢;rw [List.foldl_append,h1];simp only [List.foldl_cons,List.foldl_nil];rw [digNat (show u % 10<10 by omega)];omega
theorem decRange(u:Nat):∀ c∈Lib.decDigits u,digitB (c.toNat:Int)=true:=by
 induction u using Nat.strongRecOn with
 | ind u ih=>
  intro c hc
  by_cases h:u<10
  · rw [Lib.decDigits_one h,List.mem_singleton] at hc;subst hc;rw [digNat h];simp only [digitB,decide_eq_true_eq];omega
  · rw [Lib.decDigits,dif_neg h,List.mem_append] at hc;rcases hc with hc | hc
    · exact ih (u / 10) (by omega) c hc
    · rw [List.mem_singleton] at hc;subst hc;rw [digNat (show u % 10<10 by omega)];simp only [digitB,decide_eq_true_eq];omega
theorem decNe(u:Nat):Lib.decDigits u≠[]:=by
 by_cases h:u<10
 · rw [Lib.decDigits_one h];simp
 · rw [Lib.decDigits,dif_neg h];simp
theorem digit_name{c:UInt8}(h:digitB (c.toNat:Int)=true):nameC (c.toNat:Int)=true:=by simp [nameC,h]
theorem dg_app{a u:List UInt8}(ha:∀ c∈a,digitB (c.toNat:Int)=true) (hu:noNm u):dgL (a++u)=a:=by
 refine twApp (p:=fun c=>digitB (c.toNat:Int)) ha ?_;rcases hu with rfl | ⟨c,r,rfl,hc⟩
 · exact .inl rfl
 · refine .inr ⟨c,r,rfl,?_⟩
   cases hd:digitB (c.toNat:Int) with
   | false=>rfl
   | true=>rw [digit_name hd] at hc;cases hc
end
section
end
section
section
variable {p:Rdr}{n:Nat}{x:Ex}{u:List UInt8}
theorem subs_none(hf:PartF x) (h:subsX x=(0,0)):x.subs=[]:=by
 have h1:=hf.hi;rw [h] at h1;exact List.eq_nil_of_length_eq_zero (by simpa using h1)
theorem subs_len(hf:PartF x){m:Nat}(h:subsX x=((m:Int),(m:Int))):x.subs.length=m:=by
 have h1:=hf.hi;have h2:=hf.lo;rw [h] at h1 h2;simp only at h1 h2;omega
theorem cutL_mem{c:UInt8}:∀ {l:List UInt8}{b:UInt8},b∈l→b=c∨∃ p∈cutL c l,b∈p
 | x::l,b,h=>by
  have ih:=fun hb=>cutL_mem (c:=c) (l:=l) (b:=b) hb
  by_cases hx:x=c
  · rcases List.mem_cons.1 h with rfl | h
    · exact .inl hx
    · rcases ih h with h | ⟨p,hp,h⟩
      · exact .inl h
      · exact .inr ⟨p,by simp [cutL,hx,hp],h⟩
  · have hn:=cutL_ne c l;simp only [cutL,if_neg hx]
    cases hc:cutL c l with
    | nil=>exact absurd hc hn
    | cons q qs=>
     rw [hc] at ih;rcases List.mem_cons.1 h with rfl | h
     · exact .inr ⟨b::q,by simp,by simp⟩
     · rcases ih h with h | ⟨p,hp,h⟩
       · exact .inl h
       · rcases List.mem_cons.1 hp with rfl | hp
         · exact .inr ⟨x::p,by simp,by simp [h]⟩
         · exact .inr ⟨p,by simp [hp],h⟩
theorem part_quote{l:List UInt8}(h:partB l=true):∀ c∈l,nameC (c.toNat:Int)=true∨c=46:=by
 intro c hc;rcases cutL_mem (c:=46) hc with h1 | ⟨q,hq,hcq⟩
 · exact .inr h1
 · refine .inl ?_;unfold partB at h
   match hl:cutL 46 l,h,hq with
   | [a],h,hq=>
    obtain rfl:q=a:=by simpa using hq
    exact List.all_eq_true.1 (low_nms h) c hcq
   | [a,m],h,hq=>
    simp only [partL,Bool.and_eq_true] at h;rcases List.mem_cons.1 hq with rfl | hq
    · exact List.all_eq_true.1 (low_nms h.1) c hcq
    · obtain rfl:q=m:=by simpa using hq
      have h2:=h.2;simp only [numB,Bool.and_eq_true] at h2;exact digit_name (List.all_eq_true.1 h2.2 c hcq)
theorem path_quote{l:List UInt8}(h:pathB l=true):∀ c∈l,(c != 39)=true:=by
 intro c hc
 have hne:c≠39:=by
  rcases cutL_mem (c:=47) hc with rfl | ⟨q,hq,hcq⟩
  · decide
  · rcases part_quote (List.all_eq_true.1 h q hq) c hcq with h1 | rfl
    · rintro rfl
      revert h1
      decide
    · decide
 simpa using hne
end
end
section
section
variable {p:Rdr}{n:Nat}{x:Ex}{u:List UInt8}
theorem arm_cases{a:ByteArray}(h:armB a=true):a.data.toList=trueL∨a.data.toList=falseL∨highB a.data.toList=true:=by
 simp only [armB,Bool.or_eq_true,Lib.toList_data,beq_iff_eq] at h;rcases h with(h | h) | h
 · exact .inr (.inr h)
 · exact .inl h
 · exact .inr (.inl h)
end
end
section
section
variable {p:Rdr}{n:Nat}{x:Ex}{u:List UInt8}
end
theorem sameT_refl(l:List ByteArray):sameT l l=true:=by simp [sameT]
theorem right_ok{x:Ex}(h:rightX x=true):okX x:=by
 simp only [rightX,Bool.and_eq_true] at h;exact fun p hp=>List.all_eq_true.1 h.2 p hp
end
section
def NumP(p:Ex):Prop:=p.s.size≤1000∧-9223372036854775808≤p.n∧p.n≤9223372036854775807
theorem low_len{l:List UInt8}(h:lowB l=true):l.length≤12:=by
 simp only [lowB,nameB,Bool.and_eq_true,decide_eq_true_eq] at h;exact h.1.1.1.2
theorem high_len{l:List UInt8}(h:highB l=true):l.length≤12:=by
 simp only [highB,nameB,Bool.and_eq_true,decide_eq_true_eq] at h;exact h.1.1.2
theorem arm_len{a:ByteArray}(h:armB a=true):a.data.toList.length≤12:=by
 rcases arm_cases h with h | h | h
 · rw [h];decide
 · rw [h];decide
 · exact high_len h
def lensT(t:List (List UInt8)):Nat:=(t.map List.length).sum
theorem joinC_len:∀ t:List (List UInt8),(joinC t).length≤lensT t+2*t.length
 | []=>by simp [joinC,lensT]
 | [x]=>by simp [joinC,lensT]
 | x::y::l=>by
  have:=joinC_len (y::l);simp only [joinC,lensT,List.length_append,List.length_cons,List.map_cons,List.sum_cons] at this ⊢;omega
theorem armsT_len:∀ (arms t:List (List UInt8)),(∀ a∈arms,a.length≤12)→(armsT arms t).length≤lensT t+20*t.length
 | [],t,_=>by simp [armsT]
 | _::_,[],_=>by simp [armsT]
 | a::arms,x::t,h=>by
  have h1:=h a (by simp);have:=armsT_len arms t (fun b hb=>h b (by simp [hb]));simp only [armsT,lensT,List.length_append,List.length_cons,List.map_cons,List.sum_cons] at this ⊢;omega
theorem gT_len(t:List (List UInt8)) (i:Nat):(gT t i).length≤lensT t:=by
 unfold gT
 induction t generalizing i with
 | nil=>simp
 | cons x t ih=>
  cases i with
  | zero=>simp [lensT]
  | succ i=>
   have:=ih i;simp only [List.getElem?_cons_succ,lensT,List.map_cons,List.sum_cons] at this ⊢;omega
theorem lensT_take(t:List (List UInt8)) (n:Nat):lensT (t.take n)≤lensT t:=by
 have:lensT (t.take n)+lensT (t.drop n)=lensT t:=by
  unfold lensT;rw [← List.sum_append,← List.map_append,List.take_append_drop]
 omega
theorem lensT_at:∀ (t:List (List UInt8)) (k:Nat),lensT (t.take k)+(gT t k).length≤lensT t
 | [],k=>by simp [lensT,gT]
 | x::t,0=>by simp [lensT,gT]
 | x::t,k+1=>by
  have:=lensT_at t k;simp only [lensT,gT,List.take_succ_cons,List.map_cons,List.sum_cons,List.getElem?_cons_succ] at this ⊢;omega
theorem lens_subs:∀ l:List Ex,(∀ y∈l,(textL y).length≤1300*sizeX y)→lensT (l.map textL)≤1300*sizesX l
 | [],_=>by simp [lensT,sizesX]
 | x::l,h=>by
  have h1:=h x (by simp);have:=lens_subs l fun y hy=>h y (by simp [hy]);simp only [lensT,List.map_cons,List.sum_cons,sizesX] at this ⊢;omega
theorem two_len(a b:List UInt8):lensT [a,b]=a.length+b.length:=by simp [lensT]
theorem three_len(a b c:List UInt8):lensT [a,b,c]=a.length+(b.length+c.length):=by simp [lensT]
theorem sign_len:∀ k:Nat,k<17→(signsL[k]?.getD []).length≤3:=by decide
theorem on_len{s m:List UInt8}:(onL s m).length≤s.length+m.length+6:=by
 unfold onL
 split
 · omega
 · split
   · simp [notL];omega
   · simp;omega
theorem text_len:∀ x:Ex,okX x→(∀ p∈partsX x,NumP p)→(textL x).length≤1300*sizeX x:=by
 refine size_ind fun x ih hx hp=>?_;have hf:=hx.part;obtain⟨hps,hp0,hp1⟩:=hp x (by rw [partsX_eq];exact List.mem_cons_self)
 have hsub:∀ y∈x.subs,(textL y).length≤1300*sizeX y:=fun y hy=>by
  obtain⟨i,hi,rfl⟩:=List.getElem_of_mem hy;have he:subX x i=x.subs[i]:=by simp [subX,List.getElem?_eq_getElem hi]
  have:=ih i hi;rw [he] at this;exact this (hx.sub hy) fun p hp'=>hp p (by rw [partsX_eq];exact List.mem_cons_of_mem _ (parts_of_mem hy hp'))
 have hl:=lens_subs x.subs hsub;have hsx:=sizeX_eq x;have hssz:x.s.data.toList.length=x.s.size:=by simp
 rw [textL_eq];generalize ht:x.subs.map textL=t at *;have htl:t.length=x.subs.length:=by rw [← ht];simp
 have g0:=gT_len t 0;have key:∀ n:Nat,n≤lensT t+1300→n≤1300*sizeX x:=fun n h=>by omega
 refine key _ ?_;clear key hsub ih;unfold textK
 by_cases h5:x.k=5
 · rw [if_pos h5];split <;> simp [notL] <;> omega
 rw [if_neg h5];have hh:=hf.hi
 by_cases h6:x.k=6
 · rw [if_pos h6];obtain⟨a,b,hab⟩:=len2 (subs_len hf (m:=2) (by simp [subsX,h6]));obtain⟨ho1,ho2⟩:=hf.op6 h6
   have hsg:(signL x.op).length≤3:=by
    unfold signL;rw [if_pos ⟨by omega,ho2⟩];exact sign_len _ (by omega)
   rw [hab] at ht;subst ht
   simp [gT,two_len]
   omega
 rw [if_neg h6]
 by_cases h7:x.k=7
 · rw [if_pos h7];obtain⟨a,b,c,hab⟩:=len3 (subs_len hf (m:=3) (by simp [subsX,h7]));rw [hab] at ht;subst ht
   simp [gT,three_len,ifL,thenL,elseL]
   omega
 rw [if_neg h7]
 by_cases h8:x.k=8
 · rw [if_pos h8];obtain⟨a,b,hab⟩:=len2 (subs_len hf (m:=2) (by simp [subsX,h8]));rw [hab] at ht;subst ht
   simp [gT,two_len,fbyL]
   omega
 rw [if_neg h8]
 by_cases h9:x.k=9
 · rw [if_pos h9];obtain⟨a,b,hab⟩:=len2 (subs_len hf (m:=2) (by simp [subsX,h9]));rw [hab] at ht;subst ht
   simp [gT,two_len,arrL]
   omega
 rw [if_neg h9]
 by_cases h10:x.k=10
 · rw [if_pos h10];simp [preL];omega
 rw [if_neg h10]
 by_cases h11:x.k=11
 · rw [if_pos h11];have hs:=low_len (hf.low (.inr (.inl h11)))
   have hm:(gT (x.arms.map fun a=>a.data.toList) 0).length≤12:=by
    obtain⟨m,hm⟩:∃ m,x.arms=[m]:=by
     have h:=hf.a11 h11
     match hl:x.arms,h with
     | [m],_=>exact⟨m,rfl⟩
    have:=arm_len (hf.arms m (by rw [hm];simp));rw [hm]
    simpa [gT] using this
   have:=on_len (s:=x.s.data.toList) (m:=gT (x.arms.map fun a=>a.data.toList) 0);simp only [List.length_cons,List.length_append,whenL,List.length_nil];omega
 rw [if_neg h11]
 by_cases h12:x.k=12
 · rw [if_pos h12];have hs:=low_len (hf.low (.inr (.inr (.inl h12))))
   have ha:=armsT_len (x.arms.map fun a=>a.data.toList) t (fun a ha=>by
    obtain⟨m,hm,rfl⟩:=List.mem_map.1 ha;exact arm_len (hf.arms m hm))
   have h6:t.length≤6:=by
    have h1:=hf.a12 h12;rw [show subsX x=((x.arms.length:Int),(x.arms.length:Int)) by simp [subsX,h12]] at hh;simp only at hh;omega
   simp only [List.length_cons,List.length_append,mergeL,List.length_nil];omega
 rw [if_neg h12]
 by_cases h13:x.k=13
 · rw [if_pos h13];have hs:=low_len (hf.low (.inr (.inr (.inr h13))))
   have h7:t.length≤7:=by
    rw [show subsX x=(x.n,6+x.n) by simp [subsX,h13]] at hh;have:=hf.n2 (.inr h13);simp only at hh;omega
   have hj:=joinC_len t;have hj2:=joinC_len (t.take (t.length-1));have hg:lensT (t.take (t.length-1))+(gT t (t.length-1)).length≤lensT t:=lensT_at t _;have htk:(t.take (t.length-1)).length≤7:=by simp;omega
   unfold callT
   split
   · simp only [List.length_cons,List.length_append,everyL,List.length_nil];omega
   · simp only [List.length_cons,List.length_append,List.length_nil];omega
 rw [if_neg h13]
 by_cases h14:x.k=14
 · rw [if_pos h14]
   have h8:t.length≤8:=by
    rw [show subsX x=(1,8) by simp [subsX,h14]] at hh;simp only at hh;omega
   have hj:=joinC_len t;simp only [List.length_cons,List.length_append,List.length_nil];omega
 rw [if_neg h14]
 by_cases h15:x.k=15
 · rw [if_pos h15];obtain⟨a,b,hab⟩:=len2 (subs_len hf (m:=2) (by simp [subsX,h15]));rw [hab] at ht;subst ht
   simp [gT,two_len]
   omega
 rw [if_neg h15]
 by_cases h16:x.k=16
 · rw [if_pos h16];obtain⟨a,b,c,hab⟩:=len3 (subs_len hf (m:=3) (by simp [subsX,h16]));rw [hab] at ht;subst ht
   simp [gT,three_len,withL]
   omega
 rw [if_neg h16];unfold leafT
 by_cases h1:x.k=1
 · rw [if_pos h1];have:=Lib.itoa_length_le x.n hp0 hp1;omega
 rw [if_neg h1]
 by_cases h2:x.k=2
 · rw [if_pos h2];split <;> simp [trueL,falseL] <;> omega
 rw [if_neg h2]
 by_cases h17:x.k=17
 · rw [if_pos h17];simp only [List.length_cons,List.length_append,List.length_nil];omega
 rw [if_neg h17];omega
end
section
inductive PR (α:Type) where
 | ok (a:α) (r:List Tk)
 | bad (r:List Tk)
def PR.bind{α β:Type}(x:PR α) (f:α→List Tk→PR β):PR β:=match x with
 | .ok a r=>f a r
 | .bad r=>.bad r
@[simp] theorem PR.bind_ok {α β:Type}(a:α) (r:List Tk) (f:α→List Tk→PR β):(PR.ok a r).bind f=f a r:=rfl
@[simp] theorem PR.bind_bad {α β:Type}(r:List Tk) (f:α→List Tk→PR β):(PR.bad r:PR α).bind f=.bad r:=rfl
abbrev Psr:=List Tk→PR Ex
def isP(s:List UInt8):List Tk→Bool
 | t::_=>t.s==s && (t.k==1 || t.k==5)
 | []=>false
def needP(s:List UInt8) (r:List Tk):PR Unit:=if isP s r=true then .ok () r.tail else .bad r
def nameP:List Tk→PR (List UInt8)
 | t::r=>if t.k=1∧wordB t.s=false then .ok t.s r else .bad (t::r)
 | []=>.bad []
def armP(r:List Tk):PR (List UInt8):=
 if isP trueL r=true then .ok trueL r.tail
 else if isP falseL r=true then .ok falseL r.tail
 else match r with
  | t::r=>if t.k=2 then .ok t.s r else .bad (t::r)
  | []=>.bad []
def headK:List Tk→Int
 | t::_=>t.k
 | []=>0
def whenP(r:List Tk):PR (List UInt8 × List UInt8):=
 if isP notL r=true then(nameP r.tail).bind fun n r=>.ok (n,falseL) r
 else if headK r=2∨isP trueL r=true∨isP falseL r=true then
  (armP r).bind fun a r=>(needP [40] r).bind fun _ r=>(nameP r).bind fun n r=>(needP [41] r).bind fun _ r=>.ok (n,a) r
 else(nameP r).bind fun n r=>.ok (n,trueL) r
def moreP(ar:Psr):Nat→List Ex→List Tk→PR (List Ex)
 | 0,acc,r=>.ok acc r
 | f+1,acc,r=>if isP [44] r=true then(ar r.tail).bind fun y r=>moreP ar f (acc++[y]) r else .ok acc r
def listP(ar:Psr) (m:List UInt8) (r:List Tk):PR (List Ex):=
 (ar r).bind fun y r=>(moreP ar r.length [y] r).bind fun l r=>(needP m r).bind fun _ r=>.ok l r
def everyP(po:Psr) (s:List UInt8) (l:List Ex) (r:List Tk):PR Ex:=
 if isP everyL r=true then(po r.tail).bind fun y r=>.ok (Ex.mk 13 1 (ofB s) 0 [] (l++[y])) r else .ok (Ex.mk 13 0 (ofB s) 0 [] l) r
def callP(ar po:Psr) (s:List UInt8) (r:List Tk):PR Ex:=
 if isP [41] r=true then everyP po s [] r.tail else(listP ar [41] r).bind fun l r=>everyP po s l r
def armsP(ar:Psr):Nat→List ByteArray→List Ex→List Tk→PR (List ByteArray × List Ex)
 | 0,am,l,r=>.ok (am,l) r
 | f+1,am,l,r=>(armP r).bind fun a r=>(needP [45,62] r).bind fun _ r=>(ar r).bind fun y r=>(needP [41] r).bind fun _ r=>
  if isP [40] r=true then armsP ar f (am++[ofB a]) (l++[y]) r.tail else .ok (am++[ofB a],l++[y]) r
def mergeP(ar:Psr) (r:List Tk):PR Ex:=
 (nameP r).bind fun s r=>(needP [40] r).bind fun _ r=>(armsP ar (r.length+1) [] [] r).bind fun z r=>.ok (Ex.mk 12 0 (ofB s) 0 z.1 z.2) r
def roundP(ar:Psr) (r:List Tk):PR Ex:=
 (ar r).bind fun e r=>
  (if isP withL r=true then(needP [91] r.tail).bind fun _ r=>(ar r).bind fun i r=>(needP [93] r).bind fun _ r=>(needP [61] r).bind fun _ r=>(ar r).bind fun v r=>.ok (Ex.mk 16 0 ByteArray.empty 0 [] [e,i,v]) r
   else .ok e r).bind fun e r=>(needP [41] r).bind fun _ r=>.ok e r
def plainP:List Tk→Option (Ex × List Tk)
 | t::r=>if t.k=3 then some (Ex.mk 1 t.n ByteArray.empty 0 [] [],r)
  else if t.k=2 then some (Ex.mk 4 0 (ofB t.s) 0 [] [],r)
  else if t.k=4 then some (Ex.mk 17 0 (ofB t.s) 0 [] [],r)
  else if t.k=1∧t.s=trueL then some (Ex.mk 2 1 ByteArray.empty 0 [] [],r)
  else if t.k=1∧t.s=falseL then some (Ex.mk 2 0 ByteArray.empty 0 [] [],r)
  else none
 | []=>none
def ifP(ar:Psr) (r:List Tk):PR Ex:=
 (ar r).bind fun a r=>(needP thenL r).bind fun _ r=>(ar r).bind fun b r=>(needP elseL r).bind fun _ r=>(ar r).bind fun c r=>.ok (Ex.mk 7 0 ByteArray.empty 0 [] [a,b,c]) r
def atomP(ar po:Psr) (r:List Tk):PR Ex:=
 match plainP r with
 | some z=>.ok z.1 z.2
 | none=>
  if isP [91] r=true then(listP ar [93] r.tail).bind fun l r=>.ok (Ex.mk 14 0 ByteArray.empty 0 [] l) r
  else if isP [40] r=true then roundP ar r.tail
  else if isP mergeL r=true then mergeP ar r.tail
  else if isP ifL r=true then ifP ar r.tail
  else(nameP r).bind fun s r=>if isP [40] r=true then callP ar po s r.tail else .ok (Ex.mk 3 0 (ofB s) 0 [] []) r
def tailP(ar:Psr):Nat→Ex→List Tk→PR Ex
 | 0,e,r=>.ok e r
 | f+1,e,r=>
  if isP [91] r=true then(ar r.tail).bind fun i r=>(needP [93] r).bind fun _ r=>tailP ar f (Ex.mk 15 0 ByteArray.empty 0 [] [e,i]) r
  else if isP whenL r=true then(whenP r.tail).bind fun z r=>tailP ar f (Ex.mk 11 0 (ofB z.1) 0 [ofB z.2] [e]) r
  else .ok e r
def postP(ar po:Psr) (r:List Tk):PR Ex:=(atomP ar po r).bind fun e r2=>tailP ar (r.length+1) e r2
structure Ps where
 ar:Psr
 fb:Psr
 un:Psr
 po:Psr
def unP(P:Ps) (r:List Tk):PR Ex:=
 if isP [45] r=true then(P.un r.tail).bind fun e r=>.ok (Ex.mk 5 0 ByteArray.empty 1 [] [e]) r
 else if isP notL r=true then(P.un r.tail).bind fun e r=>.ok (Ex.mk 5 0 ByteArray.empty 2 [] [e]) r
 else if isP preL r=true then(P.un r.tail).bind fun e r=>.ok (Ex.mk 10 0 ByteArray.empty 0 [] [e]) r
 else postP P.ar P.po r
def binX(op:Int) (a b:Ex):Ex:=Ex.mk 6 0 ByteArray.empty op [] [a,b]
def signP:List (Int × List UInt8)→List Tk→Int
 | [],_=>0
 | z::l,r=>if isP z.2 r=true then z.1 else signP l r
def chainP(sub:Psr) (ops:List (Int × List UInt8)):Nat→Ex→List Tk→PR Ex
 | 0,e,r=>.ok e r
 | f+1,e,r=>if signP ops r=0 then .ok e r else(sub r.tail).bind fun y r'=>chainP sub ops f (binX (signP ops r) e y) r'
def opsProd:List (Int × List UInt8):=[(5,[42]),(6,[47]),(7,[109,111,100])]
def opsSum:List (Int × List UInt8):=[(3,[43]),(4,[45])]
def opsCmp:List (Int × List UInt8):=[(11,[61]),(12,[60,62]),(13,[60]),(14,[60,61]),(15,[62]),(16,[62,61])]
def opsAnd:List (Int × List UInt8):=[(8,[97,110,100])]
def opsOr:List (Int × List UInt8):=[(9,[111,114]),(10,[120,111,114])]
def prodP(P:Ps) (r:List Tk):PR Ex:=(unP P r).bind fun e r=>chainP (unP P) opsProd (r.length+1) e r
def sumP(P:Ps) (r:List Tk):PR Ex:=(prodP P r).bind fun e r=>chainP (prodP P) opsSum (r.length+1) e r
def cmpP(P:Ps) (r:List Tk):PR Ex:=(sumP P r).bind fun e r=>chainP (sumP P) opsCmp 1 e r
def andP(P:Ps) (r:List Tk):PR Ex:=(cmpP P r).bind fun e r=>chainP (cmpP P) opsAnd (r.length+1) e r
def orP(P:Ps) (r:List Tk):PR Ex:=(andP P r).bind fun e r=>chainP (andP P) opsOr (r.length+1) e r
def fbyP(P:Ps) (r:List Tk):PR Ex:=
 (orP P r).bind fun e r=>if isP fbyL r=true then(P.fb r.tail).bind fun y r=>.ok (Ex.mk 8 0 ByteArray.empty 0 [] [e,y]) r else .ok e r
def arrowP(P:Ps) (r:List Tk):PR Ex:=
 (fbyP P r).bind fun e r=>if isP arrL r=true then(P.ar r.tail).bind fun y r=>.ok (Ex.mk 9 0 ByteArray.empty 0 [] [e,y]) r else .ok e r
def psN:Nat→Ps
 | 0=>⟨.bad,.bad,.bad,.bad⟩
 | n+1=>⟨arrowP (psN n),fbyP (psN n),unP (psN n),postP (psN n).ar (psN n).po⟩
theorem isP_cons{s:List UInt8}{r:List Tk}(h:isP s r=true):∃ t r',r=t::r'∧t.s=s∧(t.k=1∨t.k=5):=by
 match r,h with
 | t::r',h=>
  simp only [isP,Bool.and_eq_true,Bool.or_eq_true,beq_iff_eq] at h;exact⟨t,r',rfl,h.1,h.2⟩
end
section
inductive Pc where
 | tk (k:Int) (s:List UInt8) (n:Int)
 | sub (x:Ex)
 | sp
def mkP(s:List UInt8):Pc:=.tk 5 s 0
def wdP(s:List UInt8):Pc:=.tk 1 s 0
def armPc(a:List UInt8):Pc:=if a=trueL∨a=falseL then wdP a else .tk 2 a 0
def onPc(s m:List UInt8):List Pc:=if m=trueL then [wdP s] else if m=falseL then [wdP notL,.sp,wdP s] else [.tk 2 m 0,mkP [40],wdP s,mkP [41]]
def signPc(op:Int):Pc:=if 7≤op∧op≤10 then wdP (signL op) else mkP (signL op)
def commaPc:List Ex→List Pc
 | []=>[]
 | [x]=>[.sub x]
 | x::y::l=>.sub x::mkP [44]::.sp::commaPc (y::l)
def mergePc:List (List UInt8)→List Ex→List Pc
 | a::am,x::l=>.sp::mkP [40]::armPc a::.sp::mkP [45,62]::.sp::.sub x::mkP [41]::mergePc am l
 | _,_=>[]
def gX(l:List Ex) (i:Nat):Ex:=l[i]?.getD default
def callPc(n:Int) (s:List UInt8) (l:List Ex):List Pc:=
 if n=1 then mkP [40]::wdP s::mkP [40]::(commaPc (l.take (l.length-1))++mkP [41]::.sp::wdP everyL::.sp::.sub (gX l (l.length-1))::[mkP [41]])
 else wdP s::mkP [40]::(commaPc l++[mkP [41]])
def leafPc(k n:Int) (s:List UInt8):List Pc:=
 if k=1 then [.tk 3 (Lib.itoa n) n] else if k=2 then [wdP (if n=1 then trueL else falseL)] else if k=4 then [.tk 2 s 0] else if k=17 then [.tk 4 s 0] else [wdP s]
def pcK(k n:Int) (s:List UInt8) (op:Int) (arms:List (List UInt8)) (l:List Ex):List Pc:=
 if k=5 then(if op=1 then [mkP [40],mkP [45],.sub (gX l 0),mkP [41]] else [mkP [40],wdP notL,.sp,.sub (gX l 0),mkP [41]])
 else if k=6 then [mkP [40],.sub (gX l 0),.sp,signPc op,.sp,.sub (gX l 1),mkP [41]]
 else if k=7 then [mkP [40],wdP ifL,.sp,.sub (gX l 0),.sp,wdP thenL,.sp,.sub (gX l 1),.sp,wdP elseL,.sp,.sub (gX l 2),mkP [41]]
 else if k=8 then [mkP [40],.sub (gX l 0),.sp,wdP fbyL,.sp,.sub (gX l 1),mkP [41]]
 else if k=9 then [mkP [40],.sub (gX l 0),.sp,mkP arrL,.sp,.sub (gX l 1),mkP [41]]
 else if k=10 then [mkP [40],wdP preL,.sp,.sub (gX l 0),mkP [41]]
 else if k=11 then mkP [40]::.sub (gX l 0)::.sp::wdP whenL::.sp::(onPc s (gT arms 0)++[mkP [41]])
 else if k=12 then mkP [40]::wdP mergeL::.sp::wdP s::(mergePc arms l++[mkP [41]])
 else if k=13 then callPc n s l
 else if k=14 then mkP [91]::(commaPc l++[mkP [93]])
 else if k=15 then [.sub (gX l 0),mkP [91],.sub (gX l 1),mkP [93]]
 else if k=16 then [mkP [40],.sub (gX l 0),.sp,wdP withL,.sp,mkP [91],.sub (gX l 1),mkP [93],.sp,mkP [61],.sp,.sub (gX l 2),mkP [41]]
 else leafPc k n s
def pcX(x:Ex):List Pc:=pcK x.k x.n x.s.data.toList x.op (x.arms.map fun a=>a.data.toList) x.subs
def TkP(T:Ex→List Tk→Prop):List Pc→List Tk→Prop
 | [],ts=>ts=[]
 | .tk k s n::l,ts=>∃ p r,ts=⟨k,s,n,p⟩::r∧TkP T l r
 | .sub x::l,ts=>∃ t r,ts=t++r∧T x t∧TkP T l r
 | .sp::l,ts=>TkP T l ts
def TkX:Nat→Ex→List Tk→Prop
 | 0,_,_=>False
 | f+1,x,ts=>TkP (TkX f) (pcX x) ts
theorem TkP_app(T:Ex→List Tk→Prop):∀ (p q:List Pc) (ts:List Tk),TkP T (p++q) ts↔∃ a b,ts=a++b∧TkP T p a∧TkP T q b
 | [],q,ts=>by
  simp only [List.nil_append,TkP]
  constructor
  · exact fun h=>⟨[],ts,rfl,rfl,h⟩
  · rintro ⟨_,b,rfl,rfl,h⟩;exact h
 | .tk k s n::p,q,ts=>by
  simp only [List.cons_append,TkP,TkP_app T p q]
  constructor
  · rintro ⟨z,r,rfl,a,b,rfl,h1,h2⟩;exact⟨_::a,b,rfl,⟨z,a,rfl,h1⟩,h2⟩
  · rintro ⟨_,b,rfl,⟨z,a,rfl,h1⟩,h2⟩;exact⟨z,a++b,rfl,a,b,rfl,h1,h2⟩
 | .sub x::p,q,ts=>by
  simp only [List.cons_append,TkP,TkP_app T p q]
  constructor
  · rintro ⟨t,r,rfl,ht,a,b,rfl,h1,h2⟩;exact⟨t++a,b,by simp,⟨t,a,rfl,ht,h1⟩,h2⟩
  · rintro ⟨_,b,rfl,⟨t,a,rfl,ht,h1⟩,h2⟩;exact⟨t,a++b,by simp,ht,a,b,rfl,h1,h2⟩
 | .sp::p,q,ts=>by
  simp only [List.cons_append,TkP,TkP_app T p q]
def isT(s:List UInt8) (k:Int) (s':List UInt8):Bool:=s'==s && (k==1 || k==5)
def signT:List (Int × List UInt8)→Int→List UInt8→Int
 | [],_,_=>0
 | z::l,k,s=>if isT z.2 k s=true then z.1 else signT l k s
def levT(k:Int) (s:List UInt8):Nat:=
 if(isT [91] k s || isT whenL k s)=true then 0 else if signT opsProd k s≠0 then 1 else if signT opsSum k s≠0 then 2 else if signT opsCmp k s≠0 then 3
 else if signT opsAnd k s≠0 then 4 else if signT opsOr k s≠0 then 5 else if isT fbyL k s=true then 6 else if isT arrL k s=true then 7 else 8
def levL:List Tk→Nat
 | t::_=>levT t.k t.s
 | []=>8
theorem isP_tok(s:List UInt8) (t:Tk) (r:List Tk):isP s (t::r)=isT s t.k t.s:=rfl
theorem signP_tok(l:List (Int × List UInt8)) (t:Tk) (r:List Tk):signP l (t::r)=signT l t.k t.s:=by
 induction l with
 | nil=>rfl
 | cons z l ih=>simp only [signP,signT,isP_tok,ih]
def cln(r:List Tk):Prop:=isP [40] r=false∧isP everyL r=false
theorem signP_nil(l:List (Int × List UInt8)):signP l []=0:=by
 induction l with
 | nil=>rfl
 | cons z l ih=>simp [signP,isP,ih]
theorem lev_post{r:List Tk}(h:1≤levL r):isP [91] r=false∧isP whenL r=false:=by
 cases r with
 | nil=>exact⟨rfl,rfl⟩
 | cons t r=>
  simp only [isP_tok];simp only [levL,levT] at h
  split at h
  · omega
  · rename_i h1
    simpa using h1
theorem lev_ops{r:List Tk}{L:Nat}(h:L<levL r):(1≤L→signP opsProd r=0)∧(2≤L→signP opsSum r=0)∧(3≤L→signP opsCmp r=0)∧(4≤L→signP opsAnd r=0)∧(5≤L→signP opsOr r=0)∧(6≤L→isP fbyL r=false)∧(7≤L→isP arrL r=false):=by
 cases r with
 | nil=>simp [signP_nil,isP]
 | cons t r=>
  simp only [isP_tok,signP_tok];simp only [levL,levT] at h
  split at h
  · omega
  split at h
  · refine⟨fun _=>?_,?_⟩ <;> first | omega | (repeat' apply And.intro) <;> intro _ <;> omega
  split at h
  · rename_i h2 h3
    simp only [ne_eq,Decidable.not_not] at h2;refine⟨fun _=>h2,?_⟩
    (repeat' apply And.intro) <;> intro _ <;> omega
  split at h
  · rename_i h2 h3 _
    simp only [ne_eq,Decidable.not_not] at h2 h3;refine⟨fun _=>h2,fun _=>h3,?_⟩
    (repeat' apply And.intro) <;> intro _ <;> omega
  split at h
  · rename_i h2 h3 h4 _
    simp only [ne_eq,Decidable.not_not] at h2 h3 h4;refine⟨fun _=>h2,fun _=>h3,fun _=>h4,?_⟩
    (repeat' apply And.intro) <;> intro _ <;> omega
  split at h
  · rename_i h2 h3 h4 h5 _
    simp only [ne_eq,Decidable.not_not] at h2 h3 h4 h5;refine⟨fun _=>h2,fun _=>h3,fun _=>h4,fun _=>h5,?_⟩
    (repeat' apply And.intro) <;> intro _ <;> omega
  split at h
  · rename_i h2 h3 h4 h5 h6 _
    simp only [ne_eq,Decidable.not_not] at h2 h3 h4 h5 h6;refine⟨fun _=>h2,fun _=>h3,fun _=>h4,fun _=>h5,fun _=>h6,?_⟩
    (repeat' apply And.intro) <;> intro _ <;> omega
  split at h
  · rename_i h2 h3 h4 h5 h6 h7 _
    simp only [ne_eq,Decidable.not_not] at h2 h3 h4 h5 h6;refine⟨fun _=>h2,fun _=>h3,fun _=>h4,fun _=>h5,fun _=>h6,fun _=>by simpa using h7,fun _=>by omega⟩
  · rename_i h2 h3 h4 h5 h6 h7 h8
    simp only [ne_eq,Decidable.not_not] at h2 h3 h4 h5 h6;exact⟨fun _=>h2,fun _=>h3,fun _=>h4,fun _=>h5,fun _=>h6,fun _=>by simpa using h7,fun _=>by simpa using h8⟩
theorem chain_stopB(sub:Psr) (ops:List (Int × List UInt8)) (g:Nat) (e:Ex){r:List Tk}(h:signP ops r=0):chainP sub ops g e r=.ok e r:=by
 cases g with
 | zero=>rfl
 | succ g=>simp [chainP,h]
theorem chain_one(sub:Psr) (ops:List (Int × List UInt8)) (g:Nat) (a b:Ex) (t:Tk){r rest:List Tk}(h:signT ops t.k t.s≠0) (hs:sub r=.ok b rest) (h0:signP ops rest=0):
 chainP sub ops (g+1) a (t::r)=.ok (binX (signT ops t.k t.s) a b) rest:=by
 simp [chainP,signP_tok,h,hs,chain_stopB _ _ _ _ h0]
def lv(P:Ps):Nat→Psr
 | 0=>unP P
 | 1=>prodP P
 | 2=>sumP P
 | 3=>cmpP P
 | 4=>andP P
 | 5=>orP P
 | 6=>fbyP P
 | _=>arrowP P
theorem lv_up{P:Ps}{r rest:List Tk}{x:Ex}(h0:unP P r=.ok x rest):∀ {L:Nat},L≤7→L<levL rest→lv P L r=.ok x rest:=by
 intro L h7 hL;obtain⟨h1,h2,h3,h4,h5,h6,h8⟩:=lev_ops hL;have e1:1≤L→prodP P r=.ok x rest:=fun h=>by simp [prodP,h0,chain_stopB _ _ _ _ (h1 h)]
 have e2:2≤L→sumP P r=.ok x rest:=fun h=>by simp [sumP,e1 (by omega),chain_stopB _ _ _ _ (h2 h)]
 have e3:3≤L→cmpP P r=.ok x rest:=fun h=>by simp [cmpP,e2 (by omega),chain_stopB _ _ _ _ (h3 h)]
 have e4:4≤L→andP P r=.ok x rest:=fun h=>by simp [andP,e3 (by omega),chain_stopB _ _ _ _ (h4 h)]
 have e5:5≤L→orP P r=.ok x rest:=fun h=>by simp [orP,e4 (by omega),chain_stopB _ _ _ _ (h5 h)]
 have e6:6≤L→fbyP P r=.ok x rest:=fun h=>by simp [fbyP,e5 (by omega),h6 h]
 have e7:7≤L→arrowP P r=.ok x rest:=fun h=>by simp [arrowP,e6 (by omega),h8 h]
 match L,h7 with
 | 0,_=>exact h0
 | 1,_=>exact e1 (by omega)
 | 2,_=>exact e2 (by omega)
 | 3,_=>exact e3 (by omega)
 | 4,_=>exact e4 (by omega)
 | 5,_=>exact e5 (by omega)
 | 6,_=>exact e6 (by omega)
 | 7,_=>exact e7 (by omega)
def noUn(r:List Tk):Prop:=isP [45] r=false∧isP notL r=false∧isP preL r=false
theorem un_post{P:Ps}{r:List Tk}(h:noUn r):unP P r=postP P.ar P.po r:=by
 simp [unP,h.1,h.2.1,h.2.2]
theorem tail_stopB(ar:Psr) (g:Nat) (e:Ex){r:List Tk}(h:1≤levL r):tailP ar g e r=.ok e r:=by
 obtain⟨h1,h2⟩:=lev_post h
 cases g with
 | zero=>rfl
 | succ g=>simp [tailP,h1,h2]
theorem post_atom{ar po:Psr}{r rest:List Tk}{x:Ex}(h:atomP ar po r=.ok x rest) (hl:1≤levL rest):postP ar po r=.ok x rest:=by
 simp [postP,h,tail_stopB _ _ _ hl]
end
end Go.Proofs.YtokiaaapgkdpmaaGreatDoor
