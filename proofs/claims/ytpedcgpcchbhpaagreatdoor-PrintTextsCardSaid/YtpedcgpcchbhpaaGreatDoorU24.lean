/- Parts of the proof: ShG. Conditions: each theorem's own. -/
import Derived.Lib.ItoaLen
import Derived.Test.YtpedcgpcchbhpaaGreatDoorU06
namespace Go.Proofs.YtpedcgpcchbhpaaGreatDoor
set_option linter.unusedVariables false
set_option linter.unusedSimpArgs false
set_option maxRecDepth 100000
set_option maxHeartbeats 40000000
section
def ofB(l:List UInt8):ByteArray:=⟨l.toArray⟩
theorem ofB_data(l:List UInt8):(ofB l).data.toList=l:=by simp [ofB]
theorem ofB_self(s:ByteArray):ofB s.data.toList=s:=by cases s;simp [ofB]
def trueL:List UInt8:=[116,114,117,101]
def falseL:List UInt8:=[102,97,108,115,101]
def notL:List UInt8:=[110,111,116]
def ifL:List UInt8:=[105,102]
def thenL:List UInt8:=[116,104,101,110]
def elseL:List UInt8:=[101,108,115,101]
def preL:List UInt8:=[112,114,101]
def mergeL:List UInt8:=[109,101,114,103,101]
def fbyL:List UInt8:=[102,98,121]
def whenL:List UInt8:=[119,104,101,110]
def withL:List UInt8:=[119,105,116,104]
def everyL:List UInt8:=[101,118,101,114,121]
def arrL:List UInt8:=[45,62]
def signsL:List (List UInt8):=[[],[45],[110,111,116],[43],[45],[42],[47],[109,111,100],[97,110,100],[111,114],[120,111,114],[61],[60,62],[60],[60,61],[62],[62,61]]
def signL(op:Int):List UInt8:=if 1≤op∧op≤16 then signsL[op.toNat]?.getD [] else []
def onL(name arm:List UInt8):List UInt8:=if arm=trueL then name else if arm=falseL then notL++32::name else arm++40::(name++[41])
def joinC:List (List UInt8)→List UInt8
 | []=>[]
 | [x]=>x
 | x::y::l=>x++44::32::joinC (y::l)
def gT(t:List (List UInt8)) (i:Nat):List UInt8:=t[i]?.getD []
def armsT:List (List UInt8)→List (List UInt8)→List UInt8
 | a::arms,x::t=>32::40::(a++32::45::62::32::(x++41::armsT arms t))
 | _,_=>[]
def callT(n:Int) (s:List UInt8) (t:List (List UInt8)):List UInt8:=
 if n=1 then 40::(s++40::(joinC (t.take (t.length-1))++41::32::(everyL++32::(gT t (t.length-1)++[41])))) else s++40::(joinC t++[41])
def leafT(k n:Int) (s:List UInt8):List UInt8:=
 if k=1 then Lib.itoa n else if k=2 then(if n=1 then trueL else falseL) else if k=17 then 39::(s++[39]) else s
def textK(k n:Int) (s:List UInt8) (op:Int) (arms t:List (List UInt8)):List UInt8:=
 if k=5 then(if op=1 then 40::45::(gT t 0++[41]) else 40::(notL++32::(gT t 0++[41])))
 else if k=6 then 40::(gT t 0++32::(signL op++32::(gT t 1++[41])))
 else if k=7 then 40::(ifL++32::(gT t 0++32::(thenL++32::(gT t 1++32::(elseL++32::(gT t 2++[41]))))))
 else if k=8 then 40::(gT t 0++32::(fbyL++32::(gT t 1++[41])))
 else if k=9 then 40::(gT t 0++32::(arrL++32::(gT t 1++[41])))
 else if k=10 then 40::(preL++32::(gT t 0++[41]))
 else if k=11 then 40::(gT t 0++32::(whenL++32::(onL s (gT arms 0)++[41])))
 else if k=12 then 40::(mergeL++32::(s++(armsT arms t++[41])))
 else if k=13 then callT n s t
 else if k=14 then 91::(joinC t++[93])
 else if k=15 then gT t 0++91::(gT t 1++[93])
 else if k=16 then 40::(gT t 0++32::(withL++32::91::(gT t 1++93::32::61::32::(gT t 2++[41]))))
 else leafT k n s
mutual
def textL:Ex→List UInt8
 | .mk k n s op arms subs=>textK k n s.data.toList op (arms.map fun a=>a.data.toList) (textsL subs)
def textsL:List Ex→List (List UInt8)
 | []=>[]
 | x::l=>textL x::textsL l
end
theorem textsL_map:∀ l:List Ex,textsL l=l.map textL
 | []=>rfl
 | x::l=>by simp only [textsL,List.map_cons,textsL_map l]
theorem textL_eq(x:Ex):textL x=textK x.k x.n x.s.data.toList x.op (x.arms.map fun a=>a.data.toList) (x.subs.map textL):=by
 cases x;simp only [textL,textsL_map,Ex.k,Ex.n,Ex.s,Ex.op,Ex.arms,Ex.subs]
def cutOff:List UInt8→List UInt8→Option (List UInt8)
 | [],l=>some l
 | c::m,d::l=>if c=d then cutOff m l else none
 | _::_,[]=>none
theorem cutOff_app(m l:List UInt8):cutOff m (m++l)=some l:=by
 induction m with
 | nil=>rfl
 | cons c m ih=>simp [cutOff,ih]
def nmL(l:List UInt8):List UInt8:=l.takeWhile fun c=>nameC (c.toNat:Int)
def dgL(l:List UInt8):List UInt8:=l.takeWhile fun c=>digitB (c.toNat:Int)
def qL(l:List UInt8):List UInt8:=l.takeWhile fun c=>c != 39
def bL(l:List UInt8):List UInt8:=l.takeWhile fun c=>c != 32
def dval(l:List UInt8):Nat:=l.foldl (fun a d=>a*10+(d.toNat-48)) 0
def opOf(w:List UInt8):Option Int:=((List.range 17).find? fun k=>decide (3≤k) && decide (signsL[k]?.getD []=w)).map fun k=>(k:Int)
abbrev Rdr:=List UInt8→Option (Ex × List UInt8)
def items(p:Rdr):Nat→List UInt8→Option (List Ex × List UInt8)
 | 0,_=>none
 | n+1,l=>(p l).bind fun y=>match cutOff [44,32] y.2 with
  | some r=>(items p n r).map fun z=>(y.1::z.1,z.2)
  | none=>some ([y.1],y.2)
def armsR(p:Rdr):Nat→List UInt8→Option (List ByteArray × List Ex × List UInt8)
 | 0,_=>none
 | n+1,l=>match cutOff [32,40] l with
  | some r=>(cutOff [32,45,62,32] (r.drop (nmL r).length)).bind fun r2=>(p r2).bind fun y=>(cutOff [41] y.2).bind fun r3=>(armsR p n r3).map fun z=>(ofB (nmL r)::z.1,y.1::z.2.1,z.2.2)
  | none=>some ([],[],l)
def unR(p:Rdr) (k op:Int) (l:List UInt8):Option (Ex × List UInt8):=(p l).bind fun y=>(cutOff [41] y.2).map fun r=>(Ex.mk k 0 ByteArray.empty op [] [y.1],r)
def binR(p:Rdr) (k op:Int) (a:Ex) (l:List UInt8):Option (Ex × List UInt8):=(p l).bind fun y=>(cutOff [41] y.2).map fun r=>(Ex.mk k 0 ByteArray.empty op [] [a,y.1],r)
def ifR(p:Rdr) (l:List UInt8):Option (Ex × List UInt8):=
 (p l).bind fun a=>(cutOff (32::(thenL++[32])) a.2).bind fun r=>(p r).bind fun b=>(cutOff (32::(elseL++[32])) b.2).bind fun r=>(p r).bind fun c=>(cutOff [41] c.2).map fun r=>(Ex.mk 7 0 ByteArray.empty 0 [] [a.1,b.1,c.1],r)
def mergeR(p:Rdr) (n:Nat) (l:List UInt8):Option (Ex × List UInt8):=
 (armsR p n (l.drop (nmL l).length)).bind fun z=>(cutOff [41] z.2.2).map fun r=>(Ex.mk 12 0 (ofB (nmL l)) 0 z.1 z.2.1,r)
def whenX(a:Ex) (name arm:List UInt8):Ex:=Ex.mk 11 0 (ofB name) 0 [ofB arm] [a]
def whenR(a:Ex) (l:List UInt8):Option (Ex × List UInt8):=
 if nmL l=notL then(cutOff (notL++[32]) l).bind fun r=>(cutOff [41] (r.drop (nmL r).length)).map fun r2=>(whenX a (nmL r) falseL,r2)
 else match cutOff [40] (l.drop (nmL l).length) with
  | some r=>(cutOff [41,41] (r.drop (nmL r).length)).map fun r2=>(whenX a (nmL r) (nmL l),r2)
  | none=>(cutOff [41] (l.drop (nmL l).length)).map fun r=>(whenX a (nmL l) trueL,r)
def withR(p:Rdr) (a:Ex) (l:List UInt8):Option (Ex × List UInt8):=
 (cutOff [91] l).bind fun r=>(p r).bind fun i=>(cutOff [93,32,61,32] i.2).bind fun r=>(p r).bind fun v=>(cutOff [41] v.2).map fun r=>(Ex.mk 16 0 ByteArray.empty 0 [] [a,i.1,v.1],r)
def everyX(a y:Ex):Ex:=Ex.mk 13 1 a.s 0 [] (a.subs++[y])
def everyR(p:Rdr) (a:Ex) (l:List UInt8):Option (Ex × List UInt8):=(p l).bind fun y=>(cutOff [41] y.2).map fun r=>(everyX a y.1,r)
def infixR(p:Rdr) (a:Ex) (w r:List UInt8):Option (Ex × List UInt8):=
 (cutOff [32] r).bind fun r=>if w=fbyL then binR p 8 0 a r else if w=arrL then binR p 9 0 a r else if w=whenL then whenR a r else if w=withL then withR p a r else if w=everyL then everyR p a r
  else(opOf w).bind fun op=>binR p 6 op a r
def paren(p:Rdr) (n:Nat) (r:List UInt8):Option (Ex × List UInt8):=
 if r.head?=some 45 then unR p 5 1 r.tail
 else if nmL r=notL then(cutOff (notL++[32]) r).bind fun r=>unR p 5 2 r
 else if nmL r=ifL then(cutOff (ifL++[32]) r).bind fun r=>ifR p r
 else if nmL r=preL then(cutOff (preL++[32]) r).bind fun r=>unR p 10 0 r
 else if nmL r=mergeL then(cutOff (mergeL++[32]) r).bind fun r=>mergeR p n r
 else(p r).bind fun y=>(cutOff [32] y.2).bind fun r=>infixR p y.1 (bL r) (r.drop (bL r).length)
def word(p:Rdr) (n:Nat) (l:List UInt8):Option (Ex × List UInt8):=
 if nmL l=trueL then some (Ex.mk 2 1 ByteArray.empty 0 [] [],l.drop (nmL l).length)
 else if nmL l=falseL then some (Ex.mk 2 0 ByteArray.empty 0 [] [],l.drop (nmL l).length)
 else if highB (nmL l)=true then some (Ex.mk 4 0 (ofB (nmL l)) 0 [] [],l.drop (nmL l).length)
 else match cutOff [40] (l.drop (nmL l).length) with
  | some r=>match cutOff [41] r with
   | some r2=>some (Ex.mk 13 0 (ofB (nmL l)) 0 [] [],r2)
   | none=>(items p n r).bind fun y=>(cutOff [41] y.2).map fun r2=>(Ex.mk 13 0 (ofB (nmL l)) 0 [] y.1,r2)
  | none=>some (Ex.mk 3 0 (ofB (nmL l)) 0 [] [],l.drop (nmL l).length)
def prim(p:Rdr) (n:Nat):Rdr
 | []=>none
 | c::r=>
  if c=40 then paren p n r
  else if c=91 then(items p n r).bind fun y=>(cutOff [93] y.2).map fun r2=>(Ex.mk 14 0 ByteArray.empty 0 [] y.1,r2)
  else if c=39 then(cutOff [39] (r.drop (qL r).length)).map fun r2=>(Ex.mk 17 0 (ofB (qL r)) 0 [] [],r2)
  else if digitB (c.toNat:Int)=true then some (Ex.mk 1 (dval (dgL (c::r)):Nat) ByteArray.empty 0 [] [],(c::r).drop (dgL (c::r)).length)
  else word p n (c::r)
def atX(a i:Ex):Ex:=Ex.mk 15 0 ByteArray.empty 0 [] [a,i]
def post(p:Rdr):Nat→Ex→Rdr
 | 0,x,r=>some (x,r)
 | n+1,x,r=>match cutOff [91] r with
  | some r1=>(p r1).bind fun y=>(cutOff [93] y.2).bind fun r2=>post p n (atX x y.1) r2
  | none=>some (x,r)
def readL:Nat→Rdr
 | 0,_=>none
 | f+1,l=>(prim (readL f) (f+1) l).bind fun y=>post (readL f) (f+1) y.1 y.2
end
section
def clean(u:List UInt8):Prop:=u=[]∨∃ c r,u=c::r∧(c=32∨c=41∨c=44∨c=91∨c=93∨c=59)
def stopU(u:List UInt8):Prop:=u=[]∨∃ c r,u=c::r∧(c=32∨c=41∨c=44∨c=93)
def noNm(u:List UInt8):Prop:=u=[]∨∃ c r,u=c::r∧nameC (c.toNat:Int)=false
theorem stopU.clean{u:List UInt8}(h:stopU u):clean u:=by
 rcases h with rfl | ⟨c,r,rfl,h⟩
 · exact .inl rfl
 · exact .inr ⟨c,r,rfl,by rcases h with h | h | h | h <;> simp [h]⟩
theorem clean.noNm{u:List UInt8}(h:clean u):noNm u:=by
 rcases h with rfl | ⟨c,r,rfl,h⟩
 · exact .inl rfl
 · exact .inr ⟨c,r,rfl,by rcases h with rfl | rfl | rfl | rfl | rfl | rfl <;> decide⟩
theorem noNm_cons{c:UInt8}(r:List UInt8) (h:nameC (c.toNat:Int)=false):noNm (c::r):=.inr ⟨c,r,rfl,h⟩
theorem stop_cons{c:UInt8}(r:List UInt8) (h:c=32∨c=41∨c=44∨c=93):stopU (c::r):=.inr ⟨c,r,rfl,h⟩
theorem twApp{p:UInt8→Bool}:∀ {a u:List UInt8},(∀ c∈a,p c=true)→(u=[]∨∃ c r,u=c::r∧p c=false)→(a++u).takeWhile p=a
 | [],u,_,h=>by
  rcases h with rfl | ⟨c,r,rfl,hc⟩
  · rfl
  · simp [List.takeWhile_cons,hc]
 | x::a,u,ha,h=>by
  have hx:=ha x (by simp)
  simp [List.takeWhile_cons,hx,twApp (a:=a) (fun c hc=>ha c (by simp [hc])) h]
def nmsB(l:List UInt8):Bool:=l.all fun c=>nameC (c.toNat:Int)
theorem nm_app{a u:List UInt8}(ha:nmsB a=true) (hu:noNm u):nmL (a++u)=a:=twApp (p:=fun c=>nameC (c.toNat:Int)) (fun c hc=>List.all_eq_true.1 ha c hc) hu
theorem nm_none{c:UInt8}{r:List UInt8}(h:nameC (c.toNat:Int)=false):nmL (c::r)=[]:=by simp [nmL,List.takeWhile_cons,h]
theorem dropApp(a u:List UInt8):(a++u).drop a.length=u:=by simp
theorem low_nms{l:List UInt8}(h:lowB l=true):nmsB l=true:=by
 simp only [lowB,nameB,Bool.and_eq_true] at h;exact h.1.2
theorem high_nms{l:List UInt8}(h:highB l=true):nmsB l=true:=by
 simp only [highB,nameB,Bool.and_eq_true] at h;exact h.2
theorem lowWord{l:List UInt8}(h:lowB l=true):wordB l=false:=by
 simp only [lowB,Bool.and_eq_true,Bool.not_eq_true'] at h;exact h.2
theorem low_ne{l w:List UInt8}(h:lowB l=true) (hw:wordB w=true):l≠w:=fun e=>by
 rw [e] at h;rw [lowWord h] at hw
 cases hw
theorem low_ex{l:List UInt8}(h:lowB l=true):∃ c r,l=c::r∧smallB (c.toNat:Int)=true:=by
 cases l with
 | nil=>simp [lowB,nameB] at h
 | cons c r=>
  simp only [lowB,nameB,Bool.and_eq_true] at h;exact⟨c,r,rfl,h.1.1.2⟩
theorem high_ex{l:List UInt8}(h:highB l=true):∃ c r,l=c::r∧greatB (c.toNat:Int)=true:=by
 cases l with
 | nil=>simp [highB,nameB] at h
 | cons c r=>
  simp only [highB,nameB,Bool.and_eq_true] at h;exact⟨c,r,rfl,h.1.2⟩
theorem high_ne{l w:List UInt8}(h:highB l=true) (hw:highB w=false):l≠w:=fun e=>by
 rw [e,hw] at h
 cases h
theorem lowHigh{l:List UInt8}(h:lowB l=true):highB l=false:=by
 obtain⟨c,r,rfl,hc⟩:=low_ex h
 cases hh:highB (c::r) with
 | false=>rfl
 | true=>
  obtain⟨c',r',e,hc'⟩:=high_ex hh;injection e with e1 e2;subst e1;simp only [smallB,greatB,decide_eq_true_eq] at hc hc';omega
theorem exEq{x:Ex}{k n op:Int}{s:ByteArray}{arms:List ByteArray}{subs:List Ex}(h1:x.k=k) (h2:x.n=n) (h3:x.s=s) (h4:x.op=op) (h5:x.arms=arms) (h6:x.subs=subs):x=Ex.mk k n s op arms subs:=by
 cases x
 simp only [Ex.k,Ex.n,Ex.s,Ex.op,Ex.arms,Ex.subs] at h1 h2 h3 h4 h5 h6;subst h1 h2 h3 h4 h5 h6;rfl
theorem empty_of{s:ByteArray}(h:(s.toList==[])=true):s=ByteArray.empty:=by
 rw [Lib.toList_data] at h;have h1:s.data.toList=[]:=by simpa using h
 exact ByteArray.ext (Array.ext' h1)
structure PartF (x:Ex):Prop where
 k1:1≤x.k
 k17:x.k≤17
 op0:x.k≠5→x.k≠6→x.op=0
 op5:x.k=5→x.op=1∨x.op=2
 op6:x.k=6→3≤x.op∧x.op≤16
 n0:x.k≠1→x.k≠2→x.k≠13→x.n=0
 n1:x.k=1→0≤x.n
 n2:x.k=2∨x.k=13→x.n=0∨x.n=1
 s0:x.k≠3→x.k≠4→x.k≠11→x.k≠12→x.k≠13→x.k≠17→x.s=ByteArray.empty
 low:x.k=3∨x.k=11∨x.k=12∨x.k=13→lowB x.s.data.toList=true
 high:x.k=4→highB x.s.data.toList=true
 path:x.k=17→pathB x.s.data.toList=true
 a0:x.k≠11→x.k≠12→x.arms=[]
 arms:∀ a∈x.arms,armB a=true
 a11:x.k=11→x.arms.length=1
 a12:x.k=12→x.arms.length≤6
 lo:(subsX x).1≤x.subs.length
 hi:(x.subs.length:Int)≤(subsX x).2
theorem part_facts{x:Ex}(h:partX x=true):PartF x:=by
 simp only [partX,Bool.and_eq_true,decide_eq_true_eq] at h;obtain⟨⟨⟨⟨⟨⟨⟨h1,h2⟩,hn⟩,hs⟩,ha⟩,hlo⟩,hhi⟩,_⟩:=h
 have hop:¬ (x.op<(if x.k==6 then 3 else if x.k==5 then 1 else 0)∨(if x.k==6 then 16 else if x.k==5 then 2 else 0)<x.op):=fun hc=>by
  rw [numbersX,if_pos hc] at hn
  cases hn
 have hnn:(if x.k==1 then decide (0≤x.n) else if(x.k==2 || x.k==13) then(x.n==0 || x.n==1) else x.n==0)=true:=by
  rw [numbersX,if_neg hop] at hn;exact hn
 simp only [armsX,Bool.and_eq_true] at ha;refine⟨h1,h2,fun a b=>?_,fun a=>?_,fun a=>?_,fun a b c=>?_,fun a=>?_,fun a=>?_,fun a b c d e f=>?_,fun a=>?_,fun a=>?_,fun a=>?_,fun a b=>?_,fun a h=>List.all_eq_true.1 ha.1 a h,fun a=>?_,fun a=>?_,hlo,hhi⟩
 · simp [a,b] at hop
   omega
 · simp [a] at hop
   omega
 · simp [a] at hop
   omega
 · simp [a,b,c] at hnn
   exact hnn
 · simp [a] at hnn
   exact hnn
 · rcases a with a | a <;> simp [a] at hnn <;> exact hnn
 · unfold namedX at hs;rw [show(x.k==3 || x.k==11 || x.k==12 || x.k==13)=false by simp [a,c,d,e],show(x.k==4)=false by simp [b],show(x.k==17)=false by simp [f]] at hs;exact empty_of hs
 · unfold namedX at hs;rw [show(x.k==3 || x.k==11 || x.k==12 || x.k==13)=true by rcases a with a | a | a | a <;> simp [a]] at hs;exact hs
 · unfold namedX at hs;rw [a] at hs;exact hs
 · unfold namedX at hs;rw [a] at hs;exact hs
 · have h3:=ha.2;rw [show(x.k==11)=false by simp [a],show(x.k==12)=false by simp [b]] at h3
   simpa using h3
 · have h3:=ha.2;rw [a] at h3
   simpa using h3
 · have h3:=ha.2;rw [a] at h3
   simp at h3
   exact h3.1.2
def okX(x:Ex):Prop:=∀ p∈partsX x,partX p=true
theorem okX.part{x:Ex}(h:okX x):PartF x:=part_facts (h x (by rw [partsX_eq];exact List.mem_cons_self))
theorem parts_of_mem:∀ {l:List Ex}{a p:Ex},a∈l→p∈partsX a→p∈partssX l
 | x::l,a,p,ha,hp=>by
  simp only [partssX,List.mem_append];rcases List.mem_cons.1 ha with rfl | ha
  · exact .inl hp
  · exact .inr (parts_of_mem ha hp)
theorem okX.sub{x a:Ex}(h:okX x) (ha:a∈x.subs):okX a:=fun p hp=>h p (by rw [partsX_eq];exact List.mem_cons_of_mem _ (parts_of_mem ha hp))
theorem armB_nms{a:ByteArray}(h:armB a=true):nmsB a.data.toList=true:=by
 simp only [armB,Bool.or_eq_true,Lib.toList_data,beq_iff_eq] at h;rcases h with(h | h) | h
 · exact high_nms h
 · rw [h];decide
 · rw [h];decide
theorem len1{l:List Ex}(h:l.length=1):∃ a,l=[a]:=by
 match l,h with
 | [a],_=>exact⟨a,rfl⟩
theorem len2{l:List Ex}(h:l.length=2):∃ a b,l=[a,b]:=by
 match l,h with
 | [a,b],_=>exact⟨a,b,rfl⟩
theorem len3{l:List Ex}(h:l.length=3):∃ a b c,l=[a,b,c]:=by
 match l,h with
 | [a,b,c],_=>exact⟨a,b,c,rfl⟩
theorem digNat{u:Nat}(h:u<10):(UInt8.ofNat (48+u)).toNat=48+u:=by
 rw [UInt8.toNat_ofNat'];exact Nat.mod_eq_of_lt (by omega)
theorem dvalDec(u:Nat):dval (Lib.decDigits u)=u:=by
 induction u using Nat.strongRecOn with
 | ind u ih=>
  by_cases h:u<10
  · rw [Lib.decDigits_one h]
    show 0*10+((UInt8.ofNat (48+u)).toNat-48)=u
    rw [digNat h];omega
  · rw [Lib.decDigits,dif_neg h];have h1:=ih (u / 10) (by omega);unfold dval at h1 ⊢;rw [List.foldl_append,h1];simp only [List.foldl_cons,List.foldl_nil];rw [digNat (show u % 10<10 by omega)];omega
theorem decRange(u:Nat):∀ c∈Lib.decDigits u,digitB (c.toNat:Int)=true:=by
 induction u using Nat.strongRecOn with
 | ind u ih=>
  intro c hc
  by_cases h:u<10
  · rw [Lib.decDigits_one h,List.mem_singleton] at hc;subst hc;rw [digNat h];simp only [digitB,decide_eq_true_eq];omega
  · rw [Lib.decDigits,dif_neg h,List.mem_append] at hc;rcases hc with hc | hc
    · exact ih (u / 10) (by omega) c hc
    · rw [List.mem_singleton] at hc;subst hc;rw [digNat (show u % 10<10 by omega)];simp only [digitB,decide_eq_true_eq];omega
theorem decNe(u:Nat):Lib.decDigits u≠[]:=by
 by_cases h:u<10
 · rw [Lib.decDigits_one h];simp
 · rw [Lib.decDigits,dif_neg h];simp
theorem digit_name{c:UInt8}(h:digitB (c.toNat:Int)=true):nameC (c.toNat:Int)=true:=by simp [nameC,h]
theorem dg_app{a u:List UInt8}(ha:∀ c∈a,digitB (c.toNat:Int)=true) (hu:noNm u):dgL (a++u)=a:=by
 refine twApp (p:=fun c=>digitB (c.toNat:Int)) ha ?_;rcases hu with rfl | ⟨c,r,rfl,hc⟩
 · exact .inl rfl
 · refine .inr ⟨c,r,rfl,?_⟩
   cases hd:digitB (c.toNat:Int) with
   | false=>rfl
   | true=>rw [digit_name hd] at hc;cases hc
end
section
def kwP(w:List UInt8):Prop:=w=notL∨w=ifL∨w=preL∨w=mergeL
theorem kw_nil:¬ kwP []:=by simp [kwP,notL,ifL,preL,mergeL]
theorem low_kw{l:List UInt8}(h:lowB l=true):¬ kwP l:=by
 rintro (e | e | e | e) <;> exact low_ne h (by decide) e
theorem high_kw{l:List UInt8}(h:highB l=true):¬ kwP l:=by
 rintro (e | e | e | e) <;> exact high_ne h (by decide) e
theorem digits_kw{c:UInt8}{l:List UInt8}(h:digitB (c.toNat:Int)=true):¬ kwP (c::l):=by
 rintro (e | e | e | e) <;> (injection e with e1 e2;subst e1;revert h;decide)
def begOk(l:List UInt8):Prop:=l.head?≠some 45∧l.head?≠some 41∧¬ kwP (nmL l)
theorem beg_mark{c:UInt8}(r:List UInt8) (h:c≠45∧c≠41) (hn:nameC (c.toNat:Int)=false):begOk (c::r):=⟨by simpa using h.1,by simpa using h.2,by rw [nm_none hn];exact kw_nil⟩
theorem beg_name{a v:List UInt8}(ha:nmsB a=true) (hv:noNm v) (hne:a≠[]) (hk:¬ kwP a):begOk (a++v):=by
 refine⟨?_,?_,by rw [nm_app ha hv];exact hk⟩
 · cases a with
   | nil=>exact absurd rfl hne
   | cons c a=>
    intro e;obtain rfl:c=45:=by simpa using e
    simp [nmsB,nameC,smallB,greatB,digitB] at ha
 · cases a with
   | nil=>exact absurd rfl hne
   | cons c a=>
    intro e;obtain rfl:c=41:=by simpa using e
    simp [nmsB,nameC,smallB,greatB,digitB] at ha
theorem text_beg:∀ x:Ex,okX x→∀ v,noNm v→begOk (textL x++v):=by
 refine size_ind fun x ih hx v hv=>?_;have hf:=hx.part;have h40:∀ r,begOk (40::r):=fun r=>beg_mark r (by decide) (by decide);rw [textL_eq];generalize ht:x.subs.map textL=t;unfold textK
 by_cases h5:x.k=5
 · rw [if_pos h5];split <;> exact h40 _
 rw [if_neg h5]
 by_cases h6:x.k=6
 · rw [if_pos h6];exact h40 _
 rw [if_neg h6]
 by_cases h7:x.k=7
 · rw [if_pos h7];exact h40 _
 rw [if_neg h7]
 by_cases h8:x.k=8
 · rw [if_pos h8];exact h40 _
 rw [if_neg h8]
 by_cases h9:x.k=9
 · rw [if_pos h9];exact h40 _
 rw [if_neg h9]
 by_cases h10:x.k=10
 · rw [if_pos h10];exact h40 _
 rw [if_neg h10]
 by_cases h11:x.k=11
 · rw [if_pos h11];exact h40 _
 rw [if_neg h11]
 by_cases h12:x.k=12
 · rw [if_pos h12];exact h40 _
 rw [if_neg h12]
 by_cases h13:x.k=13
 · rw [if_pos h13];unfold callT
   split
   · exact h40 _
   · have hl:=hf.low (.inr (.inr (.inr h13)));obtain⟨c,r,hc,_⟩:=low_ex hl;rw [List.append_assoc];exact beg_name (low_nms hl) (noNm_cons _ (by decide)) (by rw [hc];simp) (low_kw hl)
 rw [if_neg h13]
 by_cases h14:x.k=14
 · rw [if_pos h14];exact beg_mark _ (by decide) (by decide)
 rw [if_neg h14]
 by_cases h15:x.k=15
 · rw [if_pos h15]
   have hl:x.subs.length=2:=by
    have h1:=hf.lo;have h2:=hf.hi;have hs:subsX x=(2,2):=by simp [subsX,h15]
    rw [hs] at h1 h2;omega
   obtain⟨a,b,hab⟩:=len2 hl;subst ht;rw [hab];have ha:subX x 0=a:=by simp [subX,hab]
   have h0:=ih 0 (by omega);rw [ha] at h0
   show begOk (textL a++91::(textL b++[93])++v)
   rw [List.append_assoc];exact h0 (hx.sub (by rw [hab];simp)) _ (noNm_cons _ (by decide))
 rw [if_neg h15]
 by_cases h16:x.k=16
 · rw [if_pos h16];exact h40 _
 rw [if_neg h16];unfold leafT
 by_cases h1:x.k=1
 · rw [if_pos h1];have hn:=hf.n1 h1;have:Lib.itoa x.n=Lib.decDigits x.n.toNat:=by simp [Lib.itoa,Int.not_lt.2 hn]
   rw [this];have hr:=decRange x.n.toNat;have hne:=decNe x.n.toNat
   cases hd:Lib.decDigits x.n.toNat with
   | nil=>exact absurd hd hne
   | cons c l=>
    rw [hd] at hr;exact beg_name (List.all_eq_true.2 fun c hc=>digit_name (hr c hc)) hv (by simp) (digits_kw (hr c (by simp)))
 rw [if_neg h1]
 by_cases h2:x.k=2
 · rw [if_pos h2]
   split
   · exact beg_name (by decide) hv (by decide) (by simp [kwP,trueL,notL,ifL,preL,mergeL])
   · exact beg_name (by decide) hv (by decide) (by simp [kwP,falseL,notL,ifL,preL,mergeL])
 rw [if_neg h2]
 by_cases h17:x.k=17
 · rw [if_pos h17];exact beg_mark _ (by decide) (by decide)
 rw [if_neg h17]
 by_cases h3:x.k=3
 · have hl:=hf.low (.inl h3);obtain⟨c,r,hc,_⟩:=low_ex hl;exact beg_name (low_nms hl) hv (by rw [hc];simp) (low_kw hl)
 · have h4:x.k=4:=by have:=hf.k1;have:=hf.k17;omega
   have hl:=hf.high h4;obtain⟨c,r,hc,_⟩:=high_ex hl;exact beg_name (high_nms hl) hv (by rw [hc];simp) (high_kw hl)
def Reads(p:Rdr) (l:List Ex):Prop:=∀ y∈l,∀ u,stopU u→p (textL y++u)=some (y,u)
theorem items_ok(p:Rdr) (c:UInt8) (hc:c=41∨c=93):∀ (l:List Ex) (n:Nat),l≠[]→l.length≤n→Reads p l→∀ u,items p n (joinC (l.map textL)++c::u)=some (l,c::u):=by
 intro l
 induction l with
 | nil=>intro n h;exact absurd rfl h
 | cons x l ih=>
  intro n _ hn hp u
  cases n with
  | zero=>simp at hn
  | succ n=>
   have hx:=hp x (by simp)
   cases l with
   | nil=>
    have hs:stopU (c::u):=stop_cons _ (by rcases hc with rfl | rfl <;> simp);have hct:cutOff [44,32] (c::u)=none:=by rcases hc with rfl | rfl <;> rfl
    simp only [List.map_cons,List.map_nil,joinC,items];rw [hx _ hs]
    simp [hct]
   | cons y l=>
    have ih':=ih n (by simp) (by simpa using hn) (fun z hz=>hp z (by simp [hz])) u;simp only [List.map_cons,joinC,items,List.append_assoc,List.cons_append] at ih' ⊢;rw [hx _ (stop_cons _ (by simp))];simp only [Option.bind_some];rw [show cutOff [44,32] (44::32::(joinC (textL y::l.map textL)++c::u))=some (joinC (textL y::l.map textL)++c::u) from rfl];simp only [ih',Option.map_some]
theorem armsR_ok(p:Rdr):∀ (arms:List ByteArray) (l:List Ex) (n:Nat),arms.length=l.length→l.length<n→(∀ a∈arms,nmsB a.data.toList=true)→Reads p l→∀ u,
 armsR p n (armsT (arms.map fun a=>a.data.toList) (l.map textL)++41::u)=some (arms,l,41::u):=by
 intro arms
 induction arms with
 | nil=>
  intro l n hl hn _ _ u;obtain rfl:l=[]:=List.eq_nil_of_length_eq_zero hl.symm
  cases n with
  | zero=>simp at hn
  | succ n=>rfl
 | cons a arms ih=>
  intro l n hl hn ha hp u
  cases l with
  | nil=>simp at hl
  | cons x l=>
   cases n with
   | zero=>simp at hn
   | succ n=>
    have ih':=ih l n (by simpa using hl) (by simpa using hn) (fun z hz=>ha z (by simp [hz])) (fun z hz=>hp z (by simp [hz])) u;have hx:=hp x (by simp);have hnm:nmL (a.data.toList++32::45::62::32::(textL x++41::(armsT (arms.map fun a=>a.data.toList) (l.map textL)++41::u)))=a.data.toList:=nm_app (ha a (by simp)) (noNm_cons _ (by decide));simp only [List.map_cons,armsT,armsR,List.append_assoc,List.cons_append];rw [show ∀ r,cutOff [32,40] (32::40::r)=some r from fun _=>rfl];simp only [hnm,dropApp];rw [show ∀ r,cutOff [32,45,62,32] (32::45::62::32::r)=some r from fun _=>rfl];simp only [Option.bind_some];rw [hx _ (stop_cons _ (by simp))];simp only [Option.bind_some];rw [show ∀ r,cutOff [41] (41::r)=some r from fun _=>rfl];simp only [Option.bind_some,ih',Option.map_some,ofB_self]
end
section
theorem cut_no{c:UInt8}{m u:List UInt8}(h:clean u) (h1:c≠32) (h2:c≠41) (h3:c≠44) (h4:c≠91) (h5:c≠93) (h6:c≠59):cutOff (c::m) u=none:=by
 rcases h with rfl | ⟨d,r,rfl,h⟩
 · rfl
 · have:c≠d:=by rcases h with rfl | rfl | rfl | rfl | rfl | rfl <;> assumption
   simp [cutOff,this]
theorem cut_one(c:UInt8) (r:List UInt8):cutOff [c] (c::r)=some r:=by simp [cutOff]
section
variable {p:Rdr}{n:Nat}{x:Ex}{u:List UInt8}
theorem prim_word{c:UInt8}{r:List UInt8}(h:smallB (c.toNat:Int)=true∨greatB (c.toNat:Int)=true):prim p n (c::r)=word p n (c::r):=by
 have h40:c≠40:=by rintro rfl;revert h;decide
 have h91:c≠91:=by rintro rfl;revert h;decide
 have h39:c≠39:=by rintro rfl;revert h;decide
 have hd:digitB (c.toNat:Int)=false:=by
  simp only [smallB,greatB,decide_eq_true_eq] at h;simp only [digitB,decide_eq_false_iff_not];omega
 simp [prim,h40,h91,h39,hd]
theorem prim_low{s r:List UInt8}(h:lowB s=true):prim p n (s++r)=word p n (s++r):=by
 obtain⟨c,l,rfl,hc⟩:=low_ex h;exact prim_word (.inl hc)
theorem prim_high{s r:List UInt8}(h:highB s=true):prim p n (s++r)=word p n (s++r):=by
 obtain⟨c,l,rfl,hc⟩:=high_ex h;exact prim_word (.inr hc)
theorem prim_paren(r:List UInt8):prim p n (40::r)=paren p n r:=by simp [prim]
theorem subs_none(hf:PartF x) (h:subsX x=(0,0)):x.subs=[]:=by
 have h1:=hf.hi;rw [h] at h1;exact List.eq_nil_of_length_eq_zero (by simpa using h1)
theorem subs_len(hf:PartF x){m:Nat}(h:subsX x=((m:Int),(m:Int))):x.subs.length=m:=by
 have h1:=hf.hi;have h2:=hf.lo;rw [h] at h1 h2;simp only at h1 h2;omega
theorem read_var(hf:PartF x) (hu:clean u) (hk:x.k=3):prim p n (textL x++u)=some (x,u):=by
 have hl:=hf.low (.inl hk);have hsub:=subs_none hf (by simp [subsX,hk]);have ht:textL x=x.s.data.toList:=by rw [textL_eq,hk];simp [textK,leafT]
 rw [ht,prim_low hl];have hnm:=nm_app (low_nms hl) hu.noNm;unfold word;rw [hnm,if_neg (low_ne hl (by decide)),if_neg (low_ne hl (by decide)),lowHigh hl,if_neg (by simp),dropApp,cut_no hu (by decide) (by decide) (by decide) (by decide) (by decide) (by decide),ofB_self];simp only [Option.some.injEq,Prod.mk.injEq,and_true];exact(exEq hk (hf.n0 (by omega) (by omega) (by omega)) rfl (hf.op0 (by omega) (by omega)) (hf.a0 (by omega) (by omega)) hsub).symm
theorem read_ctor(hf:PartF x) (hu:clean u) (hk:x.k=4):prim p n (textL x++u)=some (x,u):=by
 have hl:=hf.high hk;have hsub:=subs_none hf (by simp [subsX,hk]);have ht:textL x=x.s.data.toList:=by rw [textL_eq,hk];simp [textK,leafT]
 rw [ht,prim_high hl];have hnm:=nm_app (high_nms hl) hu.noNm;unfold word;rw [hnm,if_neg (high_ne hl (by decide)),if_neg (high_ne hl (by decide)),if_pos hl,dropApp,ofB_self];simp only [Option.some.injEq,Prod.mk.injEq,and_true];exact(exEq hk (hf.n0 (by omega) (by omega) (by omega)) rfl (hf.op0 (by omega) (by omega)) (hf.a0 (by omega) (by omega)) hsub).symm
theorem read_bool(hf:PartF x) (hu:clean u) (hk:x.k=2):prim p n (textL x++u)=some (x,u):=by
 have hsub:=subs_none hf (by simp [subsX,hk]);have hs:=hf.s0 (by omega) (by omega) (by omega) (by omega) (by omega) (by omega);have hop:=hf.op0 (by omega) (by omega);have har:=hf.a0 (by omega) (by omega);rcases hf.n2 (.inl hk) with hn | hn
 · have ht:textL x=falseL:=by rw [textL_eq,hk];simp [textK,leafT,hn]
   have hnm:nmL (falseL++u)=falseL:=nm_app (by decide) hu.noNm;rw [ht,show prim p n (falseL++u)=word p n (falseL++u) from prim_word (.inl (by decide))];unfold word;rw [hnm,if_neg (by decide),if_pos rfl,dropApp];simp only [Option.some.injEq,Prod.mk.injEq,and_true];exact(exEq hk hn hs hop har hsub).symm
 · have ht:textL x=trueL:=by rw [textL_eq,hk];simp [textK,leafT,hn]
   have hnm:nmL (trueL++u)=trueL:=nm_app (by decide) hu.noNm;rw [ht,show prim p n (trueL++u)=word p n (trueL++u) from prim_word (.inl (by decide))];unfold word;rw [hnm,if_pos rfl,dropApp];simp only [Option.some.injEq,Prod.mk.injEq,and_true];exact(exEq hk hn hs hop har hsub).symm
theorem read_num(hf:PartF x) (hu:clean u) (hk:x.k=1):prim p n (textL x++u)=some (x,u):=by
 have hsub:=subs_none hf (by simp [subsX,hk]);have hn:=hf.n1 hk;have ht:textL x=Lib.decDigits x.n.toNat:=by rw [textL_eq,hk];simp [textK,leafT,Lib.itoa,Int.not_lt.2 hn]
 have hr:=decRange x.n.toNat;have hne:=decNe x.n.toNat;have hdg:=dg_app hr hu.noNm;have hv:=dvalDec x.n.toNat;rw [ht];generalize Lib.decDigits x.n.toNat=d at *
 cases d with
 | nil=>exact absurd rfl hne
 | cons c l=>
  have hc:=hr c (by simp);have h40:c≠40:=by rintro rfl;revert hc;decide
  have h91:c≠91:=by rintro rfl;revert hc;decide
  have h39:c≠39:=by rintro rfl;revert hc;decide
  have hdr:((c::l)++u).drop (c::l).length=u:=dropApp _ _;simp only [List.cons_append] at hdg hdr ⊢;simp only [prim,if_neg h40,if_neg h91,if_neg h39,if_pos hc,hdg,hv,hdr];simp only [Option.some.injEq,Prod.mk.injEq,and_true];exact(exEq hk (by omega) (hf.s0 (by omega) (by omega) (by omega) (by omega) (by omega) (by omega)) (hf.op0 (by omega) (by omega)) (hf.a0 (by omega) (by omega)) hsub).symm
theorem cutL_mem{c:UInt8}:∀ {l:List UInt8}{b:UInt8},b∈l→b=c∨∃ p∈cutL c l,b∈p
 | x::l,b,h=>by
  have ih:=fun hb=>cutL_mem (c:=c) (l:=l) (b:=b) hb
  by_cases hx:x=c
  · rcases List.mem_cons.1 h with rfl | h
    · exact .inl hx
    · rcases ih h with h | ⟨p,hp,h⟩
      · exact .inl h
      · exact .inr ⟨p,by simp [cutL,hx,hp],h⟩
  · have hn:=cutL_ne c l;simp only [cutL,if_neg hx]
    cases hc:cutL c l with
    | nil=>exact absurd hc hn
    | cons q qs=>
     rw [hc] at ih;rcases List.mem_cons.1 h with rfl | h
     · exact .inr ⟨b::q,by simp,by simp⟩
     · rcases ih h with h | ⟨p,hp,h⟩
       · exact .inl h
       · rcases List.mem_cons.1 hp with rfl | hp
         · exact .inr ⟨x::p,by simp,by simp [h]⟩
         · exact .inr ⟨p,by simp [hp],h⟩
theorem part_quote{l:List UInt8}(h:partB l=true):∀ c∈l,nameC (c.toNat:Int)=true∨c=46:=by
 intro c hc;rcases cutL_mem (c:=46) hc with h1 | ⟨q,hq,hcq⟩
 · exact .inr h1
 · refine .inl ?_;unfold partB at h
   match hl:cutL 46 l,h,hq with
   | [a],h,hq=>
    obtain rfl:q=a:=by simpa using hq
    exact List.all_eq_true.1 (low_nms h) c hcq
   | [a,m],h,hq=>
    simp only [partL,Bool.and_eq_true] at h;rcases List.mem_cons.1 hq with rfl | hq
    · exact List.all_eq_true.1 (low_nms h.1) c hcq
    · obtain rfl:q=m:=by simpa using hq
      have h2:=h.2;simp only [numB,Bool.and_eq_true] at h2;exact digit_name (List.all_eq_true.1 h2.2 c hcq)
theorem path_quote{l:List UInt8}(h:pathB l=true):∀ c∈l,(c != 39)=true:=by
 intro c hc
 have hne:c≠39:=by
  rcases cutL_mem (c:=47) hc with rfl | ⟨q,hq,hcq⟩
  · decide
  · rcases part_quote (List.all_eq_true.1 h q hq) c hcq with h1 | rfl
    · rintro rfl
      revert h1
      decide
    · decide
 simpa using hne
theorem read_old(hf:PartF x) (hk:x.k=17):prim p n (textL x++u)=some (x,u):=by
 have hsub:=subs_none hf (by simp [subsX,hk]);have hpt:=path_quote (hf.path hk);have ht:textL x=39::(x.s.data.toList++[39]):=by rw [textL_eq,hk];simp [textK,leafT]
 have hq:qL (x.s.data.toList++39::u)=x.s.data.toList:=twApp (p:=fun c=>c != 39) hpt (.inr ⟨39,u,rfl,by decide⟩);rw [ht];simp only [List.cons_append,List.append_assoc,List.nil_append,prim];rw [if_neg (by decide),if_neg (by decide),if_pos trivial,hq,dropApp,cut_one];simp only [Option.map_some,ofB_self,Option.some.injEq,Prod.mk.injEq,and_true];exact(exEq hk (hf.n0 (by omega) (by omega) (by omega)) rfl (hf.op0 (by omega) (by omega)) (hf.a0 (by omega) (by omega)) hsub).symm
theorem read_un(hf:PartF x) (hp:Reads p x.subs) (hk:x.k=5):prim p n (textL x++u)=some (x,u):=by
 obtain⟨a,ha⟩:=len1 (subs_len hf (m:=1) (by simp [subsX,hk]));have hra:=hp a (by rw [ha];simp);have hs:=hf.s0 (by omega) (by omega) (by omega) (by omega) (by omega) (by omega);have har:=hf.a0 (by omega) (by omega);have hn:=hf.n0 (by omega) (by omega) (by omega);rcases hf.op5 hk with ho | ho
 · have ht:textL x=40::45::(textL a++[41]):=by rw [textL_eq,hk,ho,ha];simp [textK,gT]
   rw [ht];simp only [List.cons_append,List.append_assoc,List.nil_append,prim_paren];unfold paren unR;rw [if_pos (show(45::(textL a++41::u)).head?=some 45 from rfl)];simp only [List.tail_cons];rw [hra _ (stop_cons _ (by simp))];simp only [Option.bind_some,cut_one,Option.map_some,Option.some.injEq,Prod.mk.injEq,and_true];exact(exEq hk hn hs ho har ha).symm
 · have ht:textL x=40::(notL++32::(textL a++[41])):=by rw [textL_eq,hk,ho,ha];simp [textK,gT]
   rw [ht];simp only [List.cons_append,List.append_assoc,List.nil_append,prim_paren];have hnm:nmL (notL++32::(textL a++41::u))=notL:=nm_app (by decide) (noNm_cons _ (by decide));unfold paren unR;rw [if_neg (by simp [notL]),if_pos hnm,show notL++32::(textL a++41::u)=(notL++[32])++(textL a++41::u) by simp,cutOff_app];simp only [Option.bind_some];rw [hra _ (stop_cons _ (by simp))];simp only [Option.bind_some,cut_one,Option.map_some,Option.some.injEq,Prod.mk.injEq,and_true];exact(exEq hk hn hs ho har ha).symm
theorem read_pre(hf:PartF x) (hp:Reads p x.subs) (hk:x.k=10):prim p n (textL x++u)=some (x,u):=by
 obtain⟨a,ha⟩:=len1 (subs_len hf (m:=1) (by simp [subsX,hk]));have hra:=hp a (by rw [ha];simp);have ht:textL x=40::(preL++32::(textL a++[41])):=by rw [textL_eq,hk,ha];simp [textK,gT]
 rw [ht];simp only [List.cons_append,List.append_assoc,List.nil_append,prim_paren];have hnm:nmL (preL++32::(textL a++41::u))=preL:=nm_app (by decide) (noNm_cons _ (by decide));unfold paren unR;rw [if_neg (by simp [preL]),hnm,if_neg (by decide),if_neg (by decide),if_pos rfl,show preL++32::(textL a++41::u)=(preL++[32])++(textL a++41::u) by simp,cutOff_app];simp only [Option.bind_some];rw [hra _ (stop_cons _ (by simp))];simp only [Option.bind_some,cut_one,Option.map_some,Option.some.injEq,Prod.mk.injEq,and_true];exact(exEq hk (hf.n0 (by omega) (by omega) (by omega)) (hf.s0 (by omega) (by omega) (by omega) (by omega) (by omega) (by omega)) (hf.op0 (by omega) (by omega)) (hf.a0 (by omega) (by omega)) ha).symm
theorem read_if(hf:PartF x) (hp:Reads p x.subs) (hk:x.k=7):prim p n (textL x++u)=some (x,u):=by
 obtain⟨a,b,c,ha⟩:=len3 (subs_len hf (m:=3) (by simp [subsX,hk]));have hra:=hp a (by rw [ha];simp);have hrb:=hp b (by rw [ha];simp);have hrc:=hp c (by rw [ha];simp);have ht:textL x=40::(ifL++32::(textL a++32::(thenL++32::(textL b++32::(elseL++32::(textL c++[41])))))):=by rw [textL_eq,hk,ha];simp [textK,gT]
 rw [ht];simp only [List.cons_append,List.append_assoc,List.nil_append,prim_paren];have hnm:∀ r,nmL (ifL++32::r)=ifL:=fun r=>nm_app (by decide) (noNm_cons _ (by decide));unfold paren ifR;rw [if_neg (by simp [ifL]),hnm,if_neg (by decide),if_pos rfl];rw [show ∀ r,cutOff (ifL++[32]) (ifL++32::r)=some r from fun _=>rfl];simp only [Option.bind_some];rw [hra _ (stop_cons _ (by simp))];simp only [Option.bind_some];rw [show ∀ r,cutOff (32::(thenL++[32])) (32::(thenL++32::r))=some r from fun _=>rfl];simp only [Option.bind_some];rw [hrb _ (stop_cons _ (by simp))];simp only [Option.bind_some];rw [show ∀ r,cutOff (32::(elseL++[32])) (32::(elseL++32::r))=some r from fun _=>rfl];simp only [Option.bind_some];rw [hrc _ (stop_cons _ (by simp))];simp only [Option.bind_some,cut_one,Option.map_some,Option.some.injEq,Prod.mk.injEq,and_true];exact(exEq hk (hf.n0 (by omega) (by omega) (by omega)) (hf.s0 (by omega) (by omega) (by omega) (by omega) (by omega) (by omega)) (hf.op0 (by omega) (by omega)) (hf.a0 (by omega) (by omega)) ha).symm
theorem paren_infix{a:Ex}{w r:List UInt8}(hoa:okX a) (hra:∀ u,stopU u→p (textL a++u)=some (a,u)) (hw:∀ c∈w,(c != 32)=true):
 prim p n (40::(textL a++32::(w++32::r)))=infixR p a w (32::r):=by
 have hb:=text_beg a hoa (32::(w++32::r)) (noNm_cons _ (by decide));have hbl:bL (w++32::r)=w:=twApp (p:=fun c=>c != 32) hw (.inr ⟨32,r,rfl,by decide⟩);obtain⟨h1,_,h2⟩:=hb;simp only [kwP,not_or] at h2;rw [prim_paren];unfold paren;rw [if_neg h1,if_neg h2.1,if_neg h2.2.1,if_neg h2.2.2.1,if_neg h2.2.2.2,hra _ (stop_cons _ (by simp))];simp only [Option.bind_some,cut_one,hbl,dropApp]
theorem sign_facts:∀ k:Nat,k<17→3≤k→(opOf (signsL[k]?.getD [])=some (k:Int)∧signsL[k]?.getD []≠fbyL∧signsL[k]?.getD []≠arrL∧signsL[k]?.getD []≠whenL∧signsL[k]?.getD []≠withL∧signsL[k]?.getD []≠everyL∧(signsL[k]?.getD []).all (fun c=>c != 32)=true):=by
 decide +kernel
theorem read_bin(hf:PartF x) (hx:okX x) (hp:Reads p x.subs) (hk:x.k=6):prim p n (textL x++u)=some (x,u):=by
 obtain⟨a,b,ha⟩:=len2 (subs_len hf (m:=2) (by simp [subsX,hk]));have hra:=hp a (by rw [ha];simp);have hrb:=hp b (by rw [ha];simp);obtain⟨ho1,ho2⟩:=hf.op6 hk;have ht:textL x=40::(textL a++32::(signL x.op++32::(textL b++[41]))):=by rw [textL_eq,hk,ha];simp [textK,gT]
 have hsg:signL x.op=signsL[x.op.toNat]?.getD []:=by unfold signL;rw [if_pos ⟨by omega,ho2⟩]
 obtain⟨s1,s2,s3,s4,s5,s6,s7⟩:=sign_facts x.op.toNat (by omega) (by omega);rw [← hsg,show((x.op.toNat:Nat):Int)=x.op by omega] at s1;rw [← hsg] at s2 s3 s4 s5 s6 s7;rw [ht];simp only [List.cons_append,List.append_assoc,List.nil_append];rw [paren_infix (hx.sub (by rw [ha];simp)) hra (List.all_eq_true.1 s7)];unfold infixR binR;simp only [cut_one,Option.bind_some];rw [if_neg s2,if_neg s3,if_neg s4,if_neg s5,if_neg s6,s1];simp only [Option.bind_some];rw [hrb _ (stop_cons _ (by simp))];simp only [Option.bind_some,cut_one,Option.map_some,Option.some.injEq,Prod.mk.injEq,and_true];exact(exEq hk (hf.n0 (by omega) (by omega) (by omega)) (hf.s0 (by omega) (by omega) (by omega) (by omega) (by omega) (by omega)) rfl (hf.a0 (by omega) (by omega)) ha).symm
end
end
section
section
variable {p:Rdr}{n:Nat}{x:Ex}{u:List UInt8}
theorem read_bin2(hf:PartF x) (hx:okX x) (hp:Reads p x.subs) (hk:x.k=8∨x.k=9):prim p n (textL x++u)=some (x,u):=by
 obtain⟨a,b,ha⟩:=len2 (subs_len hf (m:=2) (by rcases hk with hk | hk <;> simp [subsX,hk]));have hra:=hp a (by rw [ha];simp);have hrb:=hp b (by rw [ha];simp);have hn:=hf.n0 (by omega) (by omega) (by omega);have hs:=hf.s0 (by omega) (by omega) (by omega) (by omega) (by omega) (by omega);have ho:=hf.op0 (by omega) (by omega);have har:=hf.a0 (by omega) (by omega);rcases hk with hk | hk
 · have ht:textL x=40::(textL a++32::(fbyL++32::(textL b++[41]))):=by rw [textL_eq,hk,ha];simp [textK,gT]
   rw [ht];simp only [List.cons_append,List.append_assoc,List.nil_append];rw [paren_infix (hx.sub (by rw [ha];simp)) hra (by decide)];unfold infixR binR;simp only [cut_one,Option.bind_some];rw [if_pos trivial,hrb _ (stop_cons _ (by simp))];simp only [Option.bind_some,cut_one,Option.map_some,Option.some.injEq,Prod.mk.injEq,and_true];exact(exEq hk hn hs ho har ha).symm
 · have ht:textL x=40::(textL a++32::(arrL++32::(textL b++[41]))):=by rw [textL_eq,hk,ha];simp [textK,gT]
   rw [ht];simp only [List.cons_append,List.append_assoc,List.nil_append];rw [paren_infix (hx.sub (by rw [ha];simp)) hra (by decide)];unfold infixR binR;simp only [cut_one,Option.bind_some];rw [if_neg (by decide),if_pos trivial,hrb _ (stop_cons _ (by simp))];simp only [Option.bind_some,cut_one,Option.map_some,Option.some.injEq,Prod.mk.injEq,and_true];exact(exEq hk hn hs ho har ha).symm
theorem when_ok{a:Ex}{s arm:List UInt8}(hs:lowB s=true) (ha:arm=trueL∨arm=falseL∨highB arm=true):whenR a (onL s arm++41::u)=some (whenX a s arm,u):=by
 have hsn:s≠notL:=low_ne hs (by decide);have hns:=nm_app (u:=41::u) (low_nms hs) (noNm_cons _ (by decide));have e1:onL s trueL=s:=by unfold onL;rw [if_pos rfl]
 have e2:onL s falseL=notL++32::s:=by unfold onL;rw [if_neg (by decide),if_pos rfl]
 have hn2:∀ r,nmL (notL++32::r)=notL:=fun r=>nm_app (by decide) (noNm_cons _ (by decide));unfold whenR;rcases ha with rfl | rfl | ha
 · rw [e1,hns,if_neg hsn,dropApp,cut_one];rfl
 · rw [e2,List.append_assoc,List.cons_append,hn2,if_pos rfl];rw [show ∀ r,cutOff (notL++[32]) (notL++32::r)=some r from fun _=>rfl];simp only [Option.bind_some,hns,dropApp,cut_one,Option.map_some]
 · have e3:onL s arm=arm++40::(s++[41]):=by unfold onL;rw [if_neg (high_ne ha (by decide)),if_neg (high_ne ha (by decide))]
   rw [e3,List.append_assoc,List.cons_append,List.append_assoc,List.cons_append,List.nil_append];have h2:nmL (s++41::41::u)=s:=nm_app (low_nms hs) (noNm_cons _ (by decide));rw [show nmL (arm++40::(s++41::41::u))=arm from nm_app (high_nms ha) (noNm_cons _ (by decide)),if_neg (high_ne ha (by decide)),dropApp,cut_one];simp only [h2,dropApp];rfl
theorem arm_cases{a:ByteArray}(h:armB a=true):a.data.toList=trueL∨a.data.toList=falseL∨highB a.data.toList=true:=by
 simp only [armB,Bool.or_eq_true,Lib.toList_data,beq_iff_eq] at h;rcases h with(h | h) | h
 · exact .inr (.inr h)
 · exact .inl h
 · exact .inr (.inl h)
theorem read_when(hf:PartF x) (hx:okX x) (hp:Reads p x.subs) (hk:x.k=11):prim p n (textL x++u)=some (x,u):=by
 obtain⟨a,ha⟩:=len1 (subs_len hf (m:=1) (by simp [subsX,hk]));have hra:=hp a (by rw [ha];simp)
 obtain⟨m,hm⟩:∃ m,x.arms=[m]:=by
  have h:=hf.a11 hk
  match hl:x.arms,h with
  | [m],_=>exact⟨m,rfl⟩
 have hma:=hf.arms m (by rw [hm];simp);have ht:textL x=40::(textL a++32::(whenL++32::(onL x.s.data.toList m.data.toList++[41]))):=by rw [textL_eq,hk,ha,hm];simp [textK,gT]
 rw [ht];simp only [List.cons_append,List.append_assoc,List.nil_append];rw [paren_infix (hx.sub (by rw [ha];simp)) hra (by decide)];unfold infixR;simp only [cut_one,Option.bind_some];rw [if_neg (by decide),if_neg (by decide),if_pos trivial,when_ok (hf.low (.inr (.inl hk))) (arm_cases hma)];simp only [whenX,ofB_self,Option.some.injEq,Prod.mk.injEq,and_true];exact(exEq hk (hf.n0 (by omega) (by omega) (by omega)) rfl (hf.op0 (by omega) (by omega)) hm ha).symm
theorem read_with(hf:PartF x) (hx:okX x) (hp:Reads p x.subs) (hk:x.k=16):prim p n (textL x++u)=some (x,u):=by
 obtain⟨a,b,c,ha⟩:=len3 (subs_len hf (m:=3) (by simp [subsX,hk]));have hra:=hp a (by rw [ha];simp);have hrb:=hp b (by rw [ha];simp);have hrc:=hp c (by rw [ha];simp);have ht:textL x=40::(textL a++32::(withL++32::91::(textL b++93::32::61::32::(textL c++[41])))):=by rw [textL_eq,hk,ha];simp [textK,gT]
 rw [ht];simp only [List.cons_append,List.append_assoc,List.nil_append];rw [paren_infix (hx.sub (by rw [ha];simp)) hra (by decide)];unfold infixR withR;simp only [cut_one,Option.bind_some];rw [if_neg (by decide),if_neg (by decide),if_neg (by decide),if_pos trivial,hrb _ (stop_cons _ (by simp))];simp only [Option.bind_some];rw [show ∀ r,cutOff [93,32,61,32] (93::32::61::32::r)=some r from fun _=>rfl];simp only [Option.bind_some];rw [hrc _ (stop_cons _ (by simp))];simp only [Option.bind_some,cut_one,Option.map_some,Option.some.injEq,Prod.mk.injEq,and_true];exact(exEq hk (hf.n0 (by omega) (by omega) (by omega)) (hf.s0 (by omega) (by omega) (by omega) (by omega) (by omega) (by omega)) (hf.op0 (by omega) (by omega)) (hf.a0 (by omega) (by omega)) ha).symm
theorem read_merge(hf:PartF x) (hp:Reads p x.subs) (hn:x.subs.length<n) (hk:x.k=12):prim p n (textL x++u)=some (x,u):=by
 have hl:x.arms.length=x.subs.length:=by
  have h1:=hf.hi;have h2:=hf.lo;rw [show subsX x=((x.arms.length:Int),(x.arms.length:Int)) by simp [subsX,hk]] at h1 h2;simp only at h1 h2;omega
 have hlow:=hf.low (.inr (.inr (.inl hk)));have ht:textL x=40::(mergeL++32::(x.s.data.toList++(armsT (x.arms.map fun a=>a.data.toList) (x.subs.map textL)++[41]))):=by rw [textL_eq,hk];simp [textK]
 rw [ht];simp only [List.cons_append,List.append_assoc,List.nil_append,prim_paren];have hnm:∀ r,nmL (mergeL++32::r)=mergeL:=fun r=>nm_app (by decide) (noNm_cons _ (by decide));unfold paren mergeR;rw [if_neg (by simp [mergeL]),hnm,if_neg (by decide),if_neg (by decide),if_neg (by decide),if_pos rfl];rw [show ∀ r,cutOff (mergeL++[32]) (mergeL++32::r)=some r from fun _=>rfl];simp only [Option.bind_some]
 have hno:noNm (armsT (x.arms.map fun a=>a.data.toList) (x.subs.map textL)++41::u):=by
  cases x.arms.map fun a=>a.data.toList with
  | nil=>exact noNm_cons _ (by decide)
  | cons a l=>
   cases x.subs.map textL with
   | nil=>exact noNm_cons _ (by decide)
   | cons b m=>exact noNm_cons _ (by decide)
 rw [nm_app (low_nms hlow) hno,dropApp,armsR_ok p x.arms x.subs n hl hn (fun a ha=>armB_nms (hf.arms a ha)) hp u];simp only [Option.bind_some,cut_one,Option.map_some,ofB_self,Option.some.injEq,Prod.mk.injEq,and_true];exact(exEq hk (hf.n0 (by omega) (by omega) (by omega)) rfl (hf.op0 (by omega) (by omega)) rfl rfl).symm
theorem read_arr(hf:PartF x) (hp:Reads p x.subs) (hn:x.subs.length<n) (hk:x.k=14):prim p n (textL x++u)=some (x,u):=by
 have hne:x.subs≠[]:=by
  intro e;have h2:=hf.lo;rw [show subsX x=(1,8) by simp [subsX,hk],e] at h2
  simp at h2
 have ht:textL x=91::(joinC (x.subs.map textL)++[93]):=by rw [textL_eq,hk];simp [textK]
 rw [ht];simp only [List.cons_append,List.append_assoc,List.nil_append,prim];rw [if_neg (by decide),if_pos trivial,items_ok p 93 (.inr rfl) x.subs n hne (by omega) hp u];simp only [Option.bind_some,cut_one,Option.map_some,Option.some.injEq,Prod.mk.injEq,and_true];exact(exEq hk (hf.n0 (by omega) (by omega) (by omega)) (hf.s0 (by omega) (by omega) (by omega) (by omega) (by omega) (by omega)) (hf.op0 (by omega) (by omega)) (hf.a0 (by omega) (by omega)) rfl).symm
theorem word_call{s:List UInt8}{l:List Ex}(hs:lowB s=true) (hl:l.length<n) (hok:∀ y∈l,okX y) (hp:Reads p l):prim p n (s++40::(joinC (l.map textL)++41::u))=some (Ex.mk 13 0 (ofB s) 0 [] l,u):=by
 rw [prim_low hs];unfold word;rw [nm_app (low_nms hs) (noNm_cons _ (by decide)),if_neg (low_ne hs (by decide)),if_neg (low_ne hs (by decide)),lowHigh hs,if_neg (by simp),dropApp,cut_one]
 cases l with
 | nil=>
  simp only [List.map_nil,joinC,List.nil_append,cut_one]
 | cons y l=>
  have hno:cutOff [41] (joinC ((y::l).map textL)++41::u)=none:=by
   have hb:∀ v,noNm v→(textL y++v).head?≠some 41:=fun v hv=>(text_beg y (hok y (by simp)) v hv).2.1
   cases l with
   | nil=>
    have h1:=hb (41::u) (noNm_cons _ (by decide));simp only [List.map_cons,List.map_nil,joinC]
    cases ht:textL y++41::u with
    | nil=>rfl
    | cons c r=>
     rw [ht] at h1;simp only [cutOff];rw [if_neg (by simpa [eq_comm] using h1)]
   | cons z l=>
    have h1:=hb (44::32::(joinC ((z::l).map textL)++41::u)) (noNm_cons _ (by decide));simp only [List.map_cons,joinC,List.append_assoc,List.cons_append] at h1 ⊢
    cases ht:textL y++44::32::(joinC (textL z::l.map textL)++41::u) with
    | nil=>rfl
    | cons c r=>
     rw [ht] at h1;simp only [cutOff];rw [if_neg (by simpa [eq_comm] using h1)]
  simp only [hno];rw [items_ok p 41 (.inl rfl) (y::l) n (by simp) (by omega) hp u];simp only [Option.bind_some,cut_one,Option.map_some]
end
end
section
def callX(x:Ex) (l:List Ex):Ex:=Ex.mk 13 0 x.s 0 [] l
theorem callX_part{x:Ex}{l:List Ex}{y:Ex}(hf:PartF x) (hk:x.k=13) (hn:x.n=1) (hl:x.subs=l++[y]):partX (callX x l)=true:=by
 have h1:=hf.hi;rw [show subsX x=(x.n,6+x.n) by simp [subsX,hk],hn,hl] at h1;simp only [List.length_append,List.length_cons,List.length_nil] at h1;have hlow:=hf.low (.inr (.inr (.inr hk)));have hle:(l.length:Int)≤6:=by omega
 unfold callX;generalize x.s=s at hlow ⊢
 simp [partX,numbersX,namedX,armsX,subsX,Ex.k,Ex.n,Ex.s,Ex.op,Ex.arms,Ex.subs,hlow,hle]
theorem callX_ok{x:Ex}{l:List Ex}{y:Ex}(hx:okX x) (hk:x.k=13) (hn:x.n=1) (hl:x.subs=l++[y]):okX (callX x l):=by
 intro p hp;rw [partsX_eq] at hp;rcases List.mem_cons.1 hp with rfl | hp
 · exact callX_part hx.part hk hn hl
 · refine hx p ?_;rw [partsX_eq,hl,partssX_app];exact List.mem_cons_of_mem _ (List.mem_append_left _ hp)
theorem callX_size{x:Ex}{l:List Ex}{y:Ex}(hl:x.subs=l++[y]):sizeX (callX x l)+sizeX y=sizeX x:=by
 rw [sizeX_eq x,sizeX_eq (callX x l),hl,sizesX_app]
 simp [callX,Ex.subs,sizesX]
 omega
section
variable {p:Rdr}{n:Nat}{x:Ex}{u:List UInt8}
theorem read_call0(hf:PartF x) (hx:okX x) (hp:Reads p x.subs) (hl:x.subs.length<n) (hk:x.k=13) (hn:x.n=0):prim p n (textL x++u)=some (x,u):=by
 have ht:textL x=x.s.data.toList++40::(joinC (x.subs.map textL)++[41]):=by rw [textL_eq,hk,hn];simp [textK,callT]
 rw [ht];simp only [List.cons_append,List.append_assoc,List.nil_append];rw [word_call (hf.low (.inr (.inr (.inr hk)))) hl (fun y hy=>hx.sub hy) hp,ofB_self];simp only [Option.some.injEq,Prod.mk.injEq,and_true];exact(exEq hk hn rfl (hf.op0 (by omega) (by omega)) (hf.a0 (by omega) (by omega)) rfl).symm
theorem read_call1{l:List Ex}{y:Ex}(hf:PartF x) (hx:okX x) (hk:x.k=13) (hn:x.n=1) (hl:x.subs=l++[y]) (hra:∀ u,stopU u→p (textL (callX x l)++u)=some (callX x l,u)) (hry:∀ u,stopU u→p (textL y++u)=some (y,u)):prim p n (textL x++u)=some (x,u):=by
 have hta:textL (callX x l)=x.s.data.toList++40::(joinC (l.map textL)++[41]):=by rw [textL_eq];simp [callX,textK,callT,Ex.k,Ex.n,Ex.s,Ex.op,Ex.arms,Ex.subs]
 have ht:textL x=40::(textL (callX x l)++32::(everyL++32::(textL y++[41]))):=by
  rw [textL_eq,hk,hn,hl,hta]
  simp [textK,callT,gT,List.take_append]
 rw [ht];simp only [List.cons_append,List.append_assoc,List.nil_append];rw [paren_infix (callX_ok hx hk hn hl) hra (by decide)];unfold infixR everyR;simp only [cut_one,Option.bind_some];rw [if_neg (by decide),if_neg (by decide),if_neg (by decide),if_neg (by decide),if_pos trivial,hry _ (stop_cons _ (by simp))];simp only [Option.bind_some,cut_one,Option.map_some,Option.some.injEq,Prod.mk.injEq,and_true];exact(exEq hk hn rfl (hf.op0 (by omega) (by omega)) (hf.a0 (by omega) (by omega)) hl).symm
end
theorem prim_ok(f:Nat) (H:∀ y,okX y→sizeX y≤f→∀ u,stopU u→readL f (textL y++u)=some (y,u)) (x:Ex) (hx:okX x) (hs:sizeX x≤f+1) (h15:x.k≠15) (u:List UInt8) (hu:clean u):
 prim (readL f) (f+1) (textL x++u)=some (x,u):=by
 have hf:=hx.part;have hsx:=sizeX_eq x;have hp:Reads (readL f) x.subs:=fun y hy u hu=>H y (hx.sub hy) (by have:=sizes_mem hy;omega) u hu;have hn:x.subs.length<f+1:=by have:=sizes_len x.subs;omega
 have k1:=hf.k1;have k17:=hf.k17
 by_cases h1:x.k=1
 · exact read_num hf hu h1
 by_cases h2:x.k=2
 · exact read_bool hf hu h2
 by_cases h3:x.k=3
 · exact read_var hf hu h3
 by_cases h4:x.k=4
 · exact read_ctor hf hu h4
 by_cases h5:x.k=5
 · exact read_un hf hp h5
 by_cases h6:x.k=6
 · exact read_bin hf hx hp h6
 by_cases h7:x.k=7
 · exact read_if hf hp h7
 by_cases h8:x.k=8∨x.k=9
 · exact read_bin2 hf hx hp h8
 by_cases h10:x.k=10
 · exact read_pre hf hp h10
 by_cases h11:x.k=11
 · exact read_when hf hx hp h11
 by_cases h12:x.k=12
 · exact read_merge hf hp hn h12
 by_cases h13:x.k=13
 · rcases hf.n2 (.inr h13) with h0 | h0
   · exact read_call0 hf hx hp hn h13 h0
   · rcases List.eq_nil_or_concat x.subs with he | ⟨l,y,he⟩
     · have h:=hf.lo;rw [show subsX x=(x.n,6+x.n) by simp [subsX,h13],h0,he] at h
       simp at h
     · rw [List.concat_eq_append] at he;have hsz:=callX_size he;have hyp:=size_pos y;exact read_call1 hf hx h13 h0 he (fun u hu=>H _ (callX_ok hx h13 h0 he) (by omega) u hu) (hp y (by rw [he];simp))
 by_cases h14:x.k=14
 · exact read_arr hf hp hn h14
 by_cases h16:x.k=16
 · exact read_with hf hx hp h16
 · exact read_old hf (by omega)
theorem spine_ok(f:Nat) (H:∀ y,okX y→sizeX y≤f→∀ u,stopU u→readL f (textL y++u)=some (y,u)):∀ x,okX x→sizeX x≤f+1 →
 ∃ m,f+1≤m+sizeX x∧∀ u,clean u→readL (f+1) (textL x++u)=post (readL f) m x u:=by
 refine size_ind fun x ih hx hs=>?_
 by_cases h15:x.k=15
 · have hf:=hx.part;obtain⟨a,b,hab⟩:=len2 (subs_len hf (m:=2) (by simp [subsX,h15]));have ha:subX x 0=a:=by simp [subX,hab]
   have hsz:sizeX x=1+(sizeX a+sizeX b):=by rw [sizeX_eq,hab];simp [sizesX]
   have hpb:=size_pos b;have h0:=ih 0 (by rw [hab];simp);rw [ha] at h0;obtain⟨m,hm,hr⟩:=h0 (hx.sub (by rw [hab];simp)) (by omega)
   cases m with
   | zero=>omega
   | succ m=>
    refine⟨m,by omega,fun u hu=>?_⟩;have ht:textL x=textL a++91::(textL b++[93]):=by rw [textL_eq,h15,hab];simp [textK,gT]
    rw [ht];simp only [List.cons_append,List.append_assoc,List.nil_append];rw [hr _ (.inr ⟨91,_,rfl,by simp⟩)];simp only [post,cut_one];rw [H b (hx.sub (by rw [hab];simp)) (by omega) _ (stop_cons _ (by simp))];simp only [Option.bind_some,cut_one];rw [show atX a b=x from(exEq h15 (hf.n0 (by omega) (by omega) (by omega)) (hf.s0 (by omega) (by omega) (by omega) (by omega) (by omega) (by omega)) (hf.op0 (by omega) (by omega)) (hf.a0 (by omega) (by omega)) hab).symm]
 · refine⟨f+1,by omega,fun u hu=>?_⟩;rw [readL,prim_ok f H x hx hs h15 u hu];rfl
theorem post_stop(p:Rdr) (n:Nat) (x:Ex){u:List UInt8}(h:stopU u):post p n x u=some (x,u):=by
 cases n with
 | zero=>rfl
 | succ n=>
  have:cutOff [91] u=none:=by
   rcases h with rfl | ⟨c,r,rfl,h⟩
   · rfl
   · rcases h with rfl | rfl | rfl | rfl <;> rfl
  simp only [post,this]
theorem read_ok:∀ f x,okX x→sizeX x≤f→∀ u,stopU u→readL f (textL x++u)=some (x,u):=by
 intro f
 induction f with
 | zero=>intro x hx hs;have:=size_pos x;omega
 | succ f ih=>
  intro x hx hs u hu;obtain⟨m,_,hr⟩:=spine_ok f ih x hx hs;rw [hr u hu.clean,post_stop _ _ _ hu]
theorem text_inj{x y:Ex}(hx:okX x) (hy:okX y) (h:textL x=textL y):x=y:=by
 have h1:=read_ok (sizeX x+sizeX y) x hx (by omega) [] (.inl rfl);have h2:=read_ok (sizeX x+sizeX y) y hy (by omega) [] (.inl rfl);rw [h,h2] at h1;simp only [Option.some.injEq,Prod.mk.injEq,and_true] at h1;exact h1.symm
theorem sameT_imp{a b:List ByteArray}(h:sameT a b=true):a=b:=by
 have h1:=of_decide_eq_true h
 have:∀ (a b:List ByteArray),a.map (fun s=>s.toList)=b.map (fun s=>s.toList)→a=b:=by
  intro a
  induction a with
  | nil=>intro b h;cases b with
   | nil=>rfl
   | cons y b=>simp at h
  | cons x a ih=>
   intro b h
   cases b with
   | nil=>simp at h
   | cons y b=>
    simp only [List.map_cons,List.cons.injEq] at h
    have hxy:x=y:=by
     have:=h.1;rw [Lib.toList_data,Lib.toList_data] at this;exact ByteArray.ext (Array.ext' this)
    rw [hxy,ih b h.2]
 exact this a b h1
mutual
theorem sameX_imp:∀ (x y:Ex),sameX x y=true→x=y
 | .mk k n s op a l,y,h=>by
  rw [sameX_eq] at h;simp only [Bool.and_eq_true,beq_iff_eq,Ex.k,Ex.n,Ex.s,Ex.op,Ex.arms,Ex.subs] at h;obtain⟨⟨⟨⟨⟨h1,h2⟩,h3⟩,h4⟩,h5⟩,h6⟩:=h
  have hs:s=Ex.s y:=by
   rw [Lib.toList_data,Lib.toList_data] at h3;exact ByteArray.ext (Array.ext' h3)
  have hl:=sameXs_imp l (Ex.subs y) h6;exact(exEq h1.symm h2.symm hs.symm h4.symm (sameT_imp h5).symm hl.symm).symm
theorem sameXs_imp:∀ (l m:List Ex),sameXs l m=true→l=m
 | [],[],_=>rfl
 | x::l,y::m,h=>by
  simp only [sameXs,Bool.and_eq_true] at h;rw [sameX_imp x y h.1,sameXs_imp l m h.2]
 | [],_::_,h=>by simp [sameXs] at h
 | _::_,[],h=>by simp [sameXs] at h
end
theorem right_ok{x:Ex}(h:rightX x=true):okX x:=by
 simp only [rightX,Bool.and_eq_true] at h;exact fun p hp=>List.all_eq_true.1 h.2 p hp
end
section
def NumP(p:Ex):Prop:=p.s.size≤1000∧-9223372036854775808≤p.n∧p.n≤9223372036854775807
theorem low_len{l:List UInt8}(h:lowB l=true):l.length≤12:=by
 simp only [lowB,nameB,Bool.and_eq_true,decide_eq_true_eq] at h;exact h.1.1.1.2
theorem high_len{l:List UInt8}(h:highB l=true):l.length≤12:=by
 simp only [highB,nameB,Bool.and_eq_true,decide_eq_true_eq] at h;exact h.1.1.2
theorem arm_len{a:ByteArray}(h:armB a=true):a.data.toList.length≤12:=by
 rcases arm_cases h with h | h | h
 · rw [h];decide
 · rw [h];decide
 · exact high_len h
def lensT(t:List (List UInt8)):Nat:=(t.map List.length).sum
theorem joinC_len:∀ t:List (List UInt8),(joinC t).length≤lensT t+2*t.length
 | []=>by simp [joinC,lensT]
 | [x]=>by simp [joinC,lensT]
 | x::y::l=>by
  have:=joinC_len (y::l);simp only [joinC,lensT,List.length_append,List.length_cons,List.map_cons,List.sum_cons] at this ⊢;omega
theorem armsT_len:∀ (arms t:List (List UInt8)),(∀ a∈arms,a.length≤12)→(armsT arms t).length≤lensT t+20*t.length
 | [],t,_=>by simp [armsT]
 | _::_,[],_=>by simp [armsT]
 | a::arms,x::t,h=>by
  have h1:=h a (by simp);have:=armsT_len arms t (fun b hb=>h b (by simp [hb]));simp only [armsT,lensT,List.length_append,List.length_cons,List.map_cons,List.sum_cons] at this ⊢;omega
theorem gT_len(t:List (List UInt8)) (i:Nat):(gT t i).length≤lensT t:=by
 unfold gT
 induction t generalizing i with
 | nil=>simp
 | cons x t ih=>
  cases i with
  | zero=>simp [lensT]
  | succ i=>
   have:=ih i;simp only [List.getElem?_cons_succ,lensT,List.map_cons,List.sum_cons] at this ⊢;omega
theorem lensT_take(t:List (List UInt8)) (n:Nat):lensT (t.take n)≤lensT t:=by
 have:lensT (t.take n)+lensT (t.drop n)=lensT t:=by
  unfold lensT;rw [← List.sum_append,← List.map_append,List.take_append_drop]
 omega
theorem lensT_at:∀ (t:List (List UInt8)) (k:Nat),lensT (t.take k)+(gT t k).length≤lensT t
 | [],k=>by simp [lensT,gT]
 | x::t,0=>by simp [lensT,gT]
 | x::t,k+1=>by
  have:=lensT_at t k;simp only [lensT,gT,List.take_succ_cons,List.map_cons,List.sum_cons,List.getElem?_cons_succ] at this ⊢;omega
theorem lens_subs:∀ l:List Ex,(∀ y∈l,(textL y).length≤1300*sizeX y)→lensT (l.map textL)≤1300*sizesX l
 | [],_=>by simp [lensT,sizesX]
 | x::l,h=>by
  have h1:=h x (by simp);have:=lens_subs l fun y hy=>h y (by simp [hy]);simp only [lensT,List.map_cons,List.sum_cons,sizesX] at this ⊢;omega
theorem two_len(a b:List UInt8):lensT [a,b]=a.length+b.length:=by simp [lensT]
theorem three_len(a b c:List UInt8):lensT [a,b,c]=a.length+(b.length+c.length):=by simp [lensT]
theorem sign_len:∀ k:Nat,k<17→(signsL[k]?.getD []).length≤3:=by decide
theorem on_len{s m:List UInt8}:(onL s m).length≤s.length+m.length+6:=by
 unfold onL
 split
 · omega
 · split
   · simp [notL];omega
   · simp;omega
theorem text_len:∀ x:Ex,okX x→(∀ p∈partsX x,NumP p)→(textL x).length≤1300*sizeX x:=by
 refine size_ind fun x ih hx hp=>?_;have hf:=hx.part;obtain⟨hps,hp0,hp1⟩:=hp x (by rw [partsX_eq];exact List.mem_cons_self)
 have hsub:∀ y∈x.subs,(textL y).length≤1300*sizeX y:=fun y hy=>by
  obtain⟨i,hi,rfl⟩:=List.getElem_of_mem hy;have he:subX x i=x.subs[i]:=by simp [subX,List.getElem?_eq_getElem hi]
  have:=ih i hi;rw [he] at this;exact this (hx.sub hy) fun p hp'=>hp p (by rw [partsX_eq];exact List.mem_cons_of_mem _ (parts_of_mem hy hp'))
 have hl:=lens_subs x.subs hsub;have hsx:=sizeX_eq x;have hssz:x.s.data.toList.length=x.s.size:=by simp
 rw [textL_eq];generalize ht:x.subs.map textL=t at *;have htl:t.length=x.subs.length:=by rw [← ht];simp
 have g0:=gT_len t 0;have key:∀ n:Nat,n≤lensT t+1300→n≤1300*sizeX x:=fun n h=>by omega
 refine key _ ?_;clear key hsub ih;unfold textK
 by_cases h5:x.k=5
 · rw [if_pos h5];split <;> simp [notL] <;> omega
 rw [if_neg h5];have hh:=hf.hi
 by_cases h6:x.k=6
 · rw [if_pos h6];obtain⟨a,b,hab⟩:=len2 (subs_len hf (m:=2) (by simp [subsX,h6]));obtain⟨ho1,ho2⟩:=hf.op6 h6
   have hsg:(signL x.op).length≤3:=by
    unfold signL;rw [if_pos ⟨by omega,ho2⟩];exact sign_len _ (by omega)
   rw [hab] at ht;subst ht
   simp [gT,two_len]
   omega
 rw [if_neg h6]
 by_cases h7:x.k=7
 · rw [if_pos h7];obtain⟨a,b,c,hab⟩:=len3 (subs_len hf (m:=3) (by simp [subsX,h7]));rw [hab] at ht;subst ht
   simp [gT,three_len,ifL,thenL,elseL]
   omega
 rw [if_neg h7]
 by_cases h8:x.k=8
 · rw [if_pos h8];obtain⟨a,b,hab⟩:=len2 (subs_len hf (m:=2) (by simp [subsX,h8]));rw [hab] at ht;subst ht
   simp [gT,two_len,fbyL]
   omega
 rw [if_neg h8]
 by_cases h9:x.k=9
 · rw [if_pos h9];obtain⟨a,b,hab⟩:=len2 (subs_len hf (m:=2) (by simp [subsX,h9]));rw [hab] at ht;subst ht
   simp [gT,two_len,arrL]
   omega
 rw [if_neg h9]
 by_cases h10:x.k=10
 · rw [if_pos h10];simp [preL];omega
 rw [if_neg h10]
 by_cases h11:x.k=11
 · rw [if_pos h11];have hs:=low_len (hf.low (.inr (.inl h11)))
   have hm:(gT (x.arms.map fun a=>a.data.toList) 0).length≤12:=by
    obtain⟨m,hm⟩:∃ m,x.arms=[m]:=by
     have h:=hf.a11 h11
     match hl:x.arms,h with
     | [m],_=>exact⟨m,rfl⟩
    have:=arm_len (hf.arms m (by rw [hm];simp));rw [hm]
    simpa [gT] using this
   have:=on_len (s:=x.s.data.toList) (m:=gT (x.arms.map fun a=>a.data.toList) 0);simp only [List.length_cons,List.length_append,whenL,List.length_nil];omega
 rw [if_neg h11]
 by_cases h12:x.k=12
 · rw [if_pos h12];have hs:=low_len (hf.low (.inr (.inr (.inl h12))))
   have ha:=armsT_len (x.arms.map fun a=>a.data.toList) t (fun a ha=>by
    obtain⟨m,hm,rfl⟩:=List.mem_map.1 ha;exact arm_len (hf.arms m hm))
   have h6:t.length≤6:=by
    have h1:=hf.a12 h12;rw [show subsX x=((x.arms.length:Int),(x.arms.length:Int)) by simp [subsX,h12]] at hh;simp only at hh;omega
   simp only [List.length_cons,List.length_append,mergeL,List.length_nil];omega
 rw [if_neg h12]
 by_cases h13:x.k=13
 · rw [if_pos h13];have hs:=low_len (hf.low (.inr (.inr (.inr h13))))
   have h7:t.length≤7:=by
    rw [show subsX x=(x.n,6+x.n) by simp [subsX,h13]] at hh;have:=hf.n2 (.inr h13);simp only at hh;omega
   have hj:=joinC_len t;have hj2:=joinC_len (t.take (t.length-1));have hg:lensT (t.take (t.length-1))+(gT t (t.length-1)).length≤lensT t:=lensT_at t _;have htk:(t.take (t.length-1)).length≤7:=by simp;omega
   unfold callT
   split
   · simp only [List.length_cons,List.length_append,everyL,List.length_nil];omega
   · simp only [List.length_cons,List.length_append,List.length_nil];omega
 rw [if_neg h13]
 by_cases h14:x.k=14
 · rw [if_pos h14]
   have h8:t.length≤8:=by
    rw [show subsX x=(1,8) by simp [subsX,h14]] at hh;simp only at hh;omega
   have hj:=joinC_len t;simp only [List.length_cons,List.length_append,List.length_nil];omega
 rw [if_neg h14]
 by_cases h15:x.k=15
 · rw [if_pos h15];obtain⟨a,b,hab⟩:=len2 (subs_len hf (m:=2) (by simp [subsX,h15]));rw [hab] at ht;subst ht
   simp [gT,two_len]
   omega
 rw [if_neg h15]
 by_cases h16:x.k=16
 · rw [if_pos h16];obtain⟨a,b,c,hab⟩:=len3 (subs_len hf (m:=3) (by simp [subsX,h16]));rw [hab] at ht;subst ht
   simp [gT,three_len,withL]
   omega
 rw [if_neg h16];unfold leafT
 by_cases h1:x.k=1
 · rw [if_pos h1];have:=Lib.itoa_length_le x.n hp0 hp1;omega
 rw [if_neg h1]
 by_cases h2:x.k=2
 · rw [if_pos h2];split <;> simp [trueL,falseL] <;> omega
 rw [if_neg h2]
 by_cases h17:x.k=17
 · rw [if_pos h17];simp only [List.length_cons,List.length_append,List.length_nil];omega
 rw [if_neg h17];omega
end
end Go.Proofs.YtpedcgpcchbhpaaGreatDoor
