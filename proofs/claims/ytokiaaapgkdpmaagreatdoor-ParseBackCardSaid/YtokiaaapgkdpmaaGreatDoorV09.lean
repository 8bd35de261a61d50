/- Parts of the proof: PaC, PaD. Conditions: each theorem's own. -/
import Derived.Test.YtokiaaapgkdpmaaGreatDoorV08
namespace Go.Proofs.YtokiaaapgkdpmaaGreatDoor
set_option linter.unusedVariables false
set_option linter.unusedSimpArgs false
set_option maxRecDepth 100000
set_option maxHeartbeats 40000000
section
theorem low_no{l w:List UInt8}(h:lowB l=true) (hw:lowB w=false):l≠w:=fun e=>by rw [e,hw] at h;cases h
theorem low_isT{s w:List UInt8}(k:Int) (h:lowB s=true) (hw:lowB w=false):isT w k s=false:=by
 simp [isT,low_no h hw]
theorem kind_isT{w s:List UInt8}{k:Int}(h1:k≠1) (h5:k≠5):isT w k s=false:=by
 simp [isT,h1,h5]
theorem mk_isP(s:List UInt8) (n:Int) (p:Nat) (r:List Tk):isP s (⟨5,s,n,p⟩::r)=true:=by simp [isP]
theorem wd_isP(s:List UInt8) (n:Int) (p:Nat) (r:List Tk):isP s (⟨1,s,n,p⟩::r)=true:=by simp [isP]
theorem need_mk(s:List UInt8) (n:Int) (p:Nat) (r:List Tk):needP s (⟨5,s,n,p⟩::r)=.ok () r:=by simp [needP,mk_isP]
theorem need_wd(s:List UInt8) (n:Int) (p:Nat) (r:List Tk):needP s (⟨1,s,n,p⟩::r)=.ok () r:=by simp [needP,wd_isP]
theorem name_ok{s:List UInt8}(h:lowB s=true) (n:Int) (p:Nat) (r:List Tk):nameP (⟨1,s,n,p⟩::r)=.ok s r:=by simp [nameP,lowWord h]
def armOk(a:List UInt8):Prop:=highB a=true∨a=trueL∨a=falseL
theorem armOk_of{a:ByteArray}(h:armB a=true):armOk a.data.toList:=by
 simp only [armB,Bool.or_eq_true,Lib.toList_data,beq_iff_eq] at h;rcases h with(h | h) | h
 · exact .inl h
 · exact .inr (.inl h)
 · exact .inr (.inr h)
theorem arm_read{T:Ex→List Tk→Prop}{a:List UInt8}{l:List Pc}{ts:List Tk}(h:armOk a) (ht:TkP T (armPc a::l) ts):∃ z r,ts=z::r∧TkP T l r∧∀ r',armP (z::r')=.ok a r':=by
 by_cases h1:a=trueL
 · subst h1;simp only [armPc,true_or,if_true,wdP,TkP] at ht;obtain⟨p,r,rfl,hr⟩:=ht;exact⟨_,r,rfl,hr,fun r'=>by simp [armP,wd_isP]⟩
 by_cases h2:a=falseL
 · subst h2;simp only [armPc,or_true,if_true,wdP,TkP] at ht;obtain⟨p,r,rfl,hr⟩:=ht
   exact⟨_,r,rfl,hr,fun r'=>by
    have:isP trueL (⟨1,falseL,0,p⟩::r')=false:=rfl
    simp [armP,this,wd_isP]⟩
 · simp only [armPc,h1,h2,or_self,if_false,TkP] at ht;obtain⟨p,r,rfl,hr⟩:=ht;exact⟨_,r,rfl,hr,fun r'=>by simp [armP,isP]⟩
theorem on_read{T:Ex→List Tk→Prop}{s m:List UInt8}{l:List Pc}{ts:List Tk}(hs:lowB s=true) (h:armOk m) (ht:TkP T (onPc s m++l) ts):∃ z r,ts=z++r∧1≤z.length∧TkP T l r∧∀ r',whenP (z++r')=.ok (s,m) r':=by
 unfold onPc at ht
 by_cases h1:m=trueL
 · subst h1;simp only [if_true,wdP,List.cons_append,List.nil_append,TkP] at ht;obtain⟨p,r,rfl,hr⟩:=ht;refine⟨[_],r,rfl,by simp,hr,fun r'=>?_⟩;simp only [List.cons_append,List.nil_append,whenP];rw [if_neg (by rw [isP_tok,low_isT 1 hs (by decide)];simp),if_neg (by simp only [headK,isP_tok,low_isT 1 hs (show lowB trueL=false by decide),low_isT 1 hs (show lowB falseL=false by decide)];simp),name_ok hs];rfl
 by_cases h2:m=falseL
 · subst h2;simp only [if_neg h1,if_true,wdP,List.cons_append,List.nil_append,TkP] at ht;obtain⟨p,_,rfl,q,r,rfl,hr⟩:=ht;refine⟨[_,_],r,rfl,by simp,hr,fun r'=>?_⟩;simp only [List.cons_append,List.nil_append,whenP];rw [if_pos (wd_isP _ _ _ _),List.tail_cons,name_ok hs];rfl
 · simp only [if_neg h1,if_neg h2,wdP,mkP,List.cons_append,List.nil_append,TkP] at ht;obtain⟨p,_,rfl,q,_,rfl,q2,_,rfl,q3,r,rfl,hr⟩:=ht;refine⟨[_,_,_,_],r,rfl,by simp,hr,fun r'=>?_⟩;simp only [List.cons_append,List.nil_append,whenP];rw [if_neg (by rw [isP_tok,kind_isT (show(2:Int)≠1 by decide) (show(2:Int)≠5 by decide)];simp),if_pos (.inl rfl)];have ha:armP (⟨2,m,0,p⟩::⟨5,[40],0,q⟩::⟨1,s,0,q2⟩::⟨5,[41],0,q3⟩::r')=.ok m (⟨5,[40],0,q⟩::⟨1,s,0,q2⟩::⟨5,[41],0,q3⟩::r'):=by simp [armP,isP]
   rw [ha,PR.bind_ok,need_mk,PR.bind_ok,name_ok hs,PR.bind_ok,need_mk];rfl
def headOk(z:Tk):Prop:=isT [45] z.k z.s=false∧isT notL z.k z.s=false∧isT preL z.k z.s=false∧isT [41] z.k z.s=false
theorem head_mk{s:List UInt8}{p:Nat}(h:(isT [45] 5 s || isT notL 5 s || isT preL 5 s || isT [41] 5 s)=false):headOk ⟨5,s,0,p⟩:=by
 simp only [Bool.or_eq_false_iff] at h;exact⟨h.1.1.1,h.1.1.2,h.1.2,h.2⟩
theorem head_low{s:List UInt8}{n:Int}{p:Nat}(h:lowB s=true):headOk ⟨1,s,n,p⟩:=⟨low_isT 1 h (by decide),low_isT 1 h (by decide),low_isT 1 h (by decide),low_isT 1 h (by decide)⟩
theorem head_kind{s:List UInt8}{k n:Int}{p:Nat}(h1:k≠1) (h5:k≠5):headOk ⟨k,s,n,p⟩:=⟨kind_isT h1 h5,kind_isT h1 h5,kind_isT h1 h5,kind_isT h1 h5⟩
theorem tk_head:∀ (f:Nat) (x:Ex) (t:List Tk),okX x→TkX f x t→∃ z r,t=z::r∧headOk z
 | 0,_,_,_,h=>h.elim
 | f+1,x,t,hx,h=>by
  have hf:=hx.part;have hk1:=hf.k1;have hk17:=hf.k17;simp only [TkX,pcX] at h
  have hp:∀ l,TkP (TkX f) (mkP [40]::l) t→∃ z r,t=z::r∧headOk z:=fun l h=>by
   obtain⟨p,r,rfl,_⟩:=h;exact⟨_,r,rfl,head_mk rfl⟩
  unfold pcK at h
  by_cases h5:x.k=5
  · rw [if_pos h5] at h
    split at h <;> exact hp _ h
  rw [if_neg h5] at h
  by_cases h6:x.k=6
  · rw [if_pos h6] at h;exact hp _ h
  rw [if_neg h6] at h
  by_cases h7:x.k=7
  · rw [if_pos h7] at h;exact hp _ h
  rw [if_neg h7] at h
  by_cases h8:x.k=8
  · rw [if_pos h8] at h;exact hp _ h
  rw [if_neg h8] at h
  by_cases h9:x.k=9
  · rw [if_pos h9] at h;exact hp _ h
  rw [if_neg h9] at h
  by_cases h10:x.k=10
  · rw [if_pos h10] at h;exact hp _ h
  rw [if_neg h10] at h
  by_cases h11:x.k=11
  · rw [if_pos h11] at h;exact hp _ h
  rw [if_neg h11] at h
  by_cases h12:x.k=12
  · rw [if_pos h12] at h;exact hp _ h
  rw [if_neg h12] at h
  by_cases h13:x.k=13
  · rw [if_pos h13] at h;unfold callPc at h
    split at h
    · exact hp _ h
    · obtain⟨p,r,rfl,_⟩:=h;exact⟨_,r,rfl,head_low (hf.low (by omega))⟩
  rw [if_neg h13] at h
  by_cases h14:x.k=14
  · rw [if_pos h14] at h;obtain⟨p,r,rfl,_⟩:=h;exact⟨_,r,rfl,head_mk rfl⟩
  rw [if_neg h14] at h
  by_cases h15:x.k=15
  · rw [if_pos h15] at h;obtain⟨a,b,hab⟩:=len2 (subs_len hf (m:=2) (by simp [subsX,h15]));rw [hab] at h;obtain⟨ta,_,rfl,ha,_⟩:=h;obtain⟨z,r,rfl,hz⟩:=tk_head f a ta (hx.sub (by rw [hab];simp)) ha;exact⟨z,_,rfl,hz⟩
  rw [if_neg h15] at h
  by_cases h16:x.k=16
  · rw [if_pos h16] at h;exact hp _ h
  rw [if_neg h16] at h;unfold leafPc at h
  by_cases h1:x.k=1
  · rw [if_pos h1] at h;obtain⟨p,r,rfl,_⟩:=h;exact⟨_,r,rfl,head_kind (by decide) (by decide)⟩
  rw [if_neg h1] at h
  by_cases h2:x.k=2
  · rw [if_pos h2] at h;obtain⟨p,r,rfl,_⟩:=h;refine⟨_,r,rfl,?_⟩
    split
    · exact⟨rfl,rfl,rfl,rfl⟩
    · exact⟨rfl,rfl,rfl,rfl⟩
  rw [if_neg h2] at h
  by_cases h4:x.k=4
  · rw [if_pos h4] at h;obtain⟨p,r,rfl,_⟩:=h;exact⟨_,r,rfl,head_kind (by decide) (by decide)⟩
  rw [if_neg h4] at h
  by_cases h17:x.k=17
  · rw [if_pos h17] at h;obtain⟨p,r,rfl,_⟩:=h;exact⟨_,r,rfl,head_kind (by decide) (by decide)⟩
  rw [if_neg h17] at h;obtain⟨p,r,rfl,_⟩:=h;exact⟨_,r,rfl,head_low (hf.low (by omega))⟩
theorem tk_noUn{f:Nat}{x:Ex}{t:List Tk}(hx:okX x) (h:TkX f x t) (rest:List Tk):noUn (t++rest):=by
 obtain⟨z,r,rfl,h1,h2,h3,_⟩:=tk_head f x t hx h;exact⟨h1,h2,h3⟩
theorem tk_noShut{f:Nat}{x:Ex}{t:List Tk}(hx:okX x) (h:TkX f x t) (rest:List Tk):isP [41] (t++rest)=false:=by
 obtain⟨z,r,rfl,_,_,_,h4⟩:=tk_head f x t hx h;exact h4
theorem tk_pos{f:Nat}{x:Ex}{t:List Tk}(hx:okX x) (h:TkX f x t):1≤t.length:=by
 obtain⟨z,r,rfl,_⟩:=tk_head f x t hx h
 simp
def commaTl:List Ex→List Pc
 | []=>[]
 | x::l=>mkP [44]::.sp::.sub x::commaTl l
theorem comma_cons:∀ (x:Ex) (l:List Ex),commaPc (x::l)=.sub x::commaTl l
 | x,[]=>rfl
 | x,y::l=>by simp only [commaPc,commaTl,comma_cons y l]
def Reads1(ar:Psr) (f n:Nat):Prop:=∀ (y:Ex) (t rest:List Tk),okX y→TkX f y t→t.length≤n→cln rest→8≤levL rest→ar (t++rest)=.ok y rest
theorem more_read{ar:Psr}{f n:Nat}(H:Reads1 ar f n){m:List UInt8}{p:Nat}{rest:List Tk}(hm:(m==[41] || m==[93])=true):∀ (l:List Ex) (acc:List Ex) (g:Nat) (ts:List Tk),(∀ y∈l,okX y)→TkP (TkX f) (commaTl l) ts→ts.length≤n→l.length≤g →
 moreP ar g acc (ts++⟨5,m,0,p⟩::rest)=.ok (acc++l) (⟨5,m,0,p⟩::rest)
 | [],acc,g,ts,_,h,_,_=>by
  have h':ts=[]:=h;subst h'
  have hc:isP [44] (⟨5,m,0,p⟩::rest)=false:=by
   rw [isP_tok];simp only [Bool.or_eq_true,beq_iff_eq] at hm;rcases hm with rfl | rfl <;> rfl
  cases g with
  | zero=>simp [moreP]
  | succ g=>simp [moreP,hc]
 | y::l,acc,0,ts,_,_,_,hg=>absurd hg (by simp)
 | y::l,acc,g+1,ts,hok,h,hn,hg=>by
  simp only [commaTl,mkP,TkP] at h;obtain⟨q,_,rfl,ty,r,rfl,hy,hr⟩:=h;simp only [List.length_cons,List.length_append] at hn
  have hcl:cln (r++⟨5,m,0,p⟩::rest)∧8≤levL (r++⟨5,m,0,p⟩::rest):=by
   cases l with
   | nil=>
    have h':r=[]:=hr;subst h';simp only [Bool.or_eq_true,beq_iff_eq] at hm;rcases hm with rfl | rfl <;> exact⟨⟨rfl,rfl⟩,Nat.le_refl _⟩
   | cons z l=>
    simp only [commaTl,mkP,TkP] at hr;obtain⟨q,_,rfl,_⟩:=hr;exact⟨⟨rfl,rfl⟩,Nat.le_refl _⟩
  simp only [List.cons_append,List.append_assoc,moreP,mk_isP,if_true,List.tail_cons];rw [H y ty _ (hok y (by simp)) hy (by omega) hcl.1 hcl.2,PR.bind_ok,more_read H hm l (acc++[y]) g r (fun z hz=>hok z (by simp [hz])) hr (by omega) (by simpa using hg)]
  simp
theorem list_read{ar:Psr}{f n:Nat}(H:Reads1 ar f n){m:List UInt8}{p:Nat}{rest:List Tk}(hm:(m==[41] || m==[93])=true) (l:List Ex) (hl:l≠[]) (ts:List Tk) (hok:∀ y∈l,okX y) (h:TkP (TkX f) (commaPc l) ts) (hn:ts.length≤n):
 listP ar m (ts++⟨5,m,0,p⟩::rest)=.ok l rest:=by
 match l,hl with
 | y::l,_=>
  rw [comma_cons] at h;simp only [TkP] at h;obtain⟨ty,r,rfl,hy,hr⟩:=h;simp only [List.length_append] at hn
  have hcl:cln (r++⟨5,m,0,p⟩::rest)∧8≤levL (r++⟨5,m,0,p⟩::rest):=by
   cases l with
   | nil=>
    have h':r=[]:=hr;subst h';simp only [Bool.or_eq_true,beq_iff_eq] at hm;rcases hm with rfl | rfl <;> exact⟨⟨rfl,rfl⟩,Nat.le_refl _⟩
   | cons z l=>
    simp only [commaTl,mkP,TkP] at hr;obtain⟨q,_,rfl,_⟩:=hr;exact⟨⟨rfl,rfl⟩,Nat.le_refl _⟩
  have hlen:l.length≤(r++⟨5,m,0,p⟩::rest).length:=by
   have:∀ (l:List Ex) (r:List Tk),TkP (TkX f) (commaTl l) r→l.length≤r.length:=by
    intro l
    induction l with
    | nil=>intro r _;simp
    | cons z l ih=>
     intro r h;simp only [commaTl,mkP,TkP] at h;obtain⟨q,_,rfl,tz,r',rfl,_,hr'⟩:=h;have:=ih r' hr';simp only [List.length_cons,List.length_append];omega
   have:=this l r hr;simp only [List.length_append];omega
  unfold listP;rw [List.append_assoc,H y ty _ (hok y (by simp)) hy (by omega) hcl.1 hcl.2,PR.bind_ok,more_read H hm l [y] _ r (fun z hz=>hok z (by simp [hz])) hr (by omega) hlen,PR.bind_ok,need_mk,PR.bind_ok];rfl
theorem arms_read{ar:Psr}{f n:Nat}(H:Reads1 ar f n){p:Nat}{rest:List Tk}:∀ (am:List ByteArray) (l:List Ex) (am0:List ByteArray) (l0:List Ex) (g:Nat) (ts:List Tk),am.length=l.length→1≤l.length→(∀ a∈am,armB a=true)→(∀ y∈l,okX y) →
 TkP (TkX f) (mergePc (am.map fun a=>a.data.toList) l) ts→ts.length≤n→l.length≤g →
 ∃ q r,ts=⟨5,[40],0,q⟩::r∧armsP ar g am0 l0 (r++⟨5,[41],0,p⟩::rest)=.ok (am0++am,l0++l) (⟨5,[41],0,p⟩::rest)
 | [],l,am0,l0,g,ts,h1,h2,_,_,_,_,_=>by simp at h1;omega
 | _::_,[],am0,l0,g,ts,_,h2,_,_,_,_,_=>by simp at h2
 | a::am,y::l,am0,l0,0,ts,_,_,_,_,_,_,hg=>absurd hg (by simp)
 | a::am,y::l,am0,l0,g+1,ts,h1,_,ha,hok,h,hn,hg=>by
  simp only [List.map_cons,mergePc,mkP] at h;simp only [TkP] at h;obtain⟨q,_,rfl,h⟩:=h;obtain⟨z,_,rfl,h,hz⟩:=arm_read (armOk_of (ha a (by simp))) h;simp only [TkP] at h;obtain⟨q2,_,rfl,ty,_,rfl,hy,q3,r,rfl,hr⟩:=h;refine⟨q,_,rfl,?_⟩;simp only [List.length_cons,List.length_append] at hn;have hself:ofB a.data.toList=a:=ofB_self a;simp only [List.cons_append,List.append_assoc,armsP];rw [hz,PR.bind_ok,need_mk,PR.bind_ok,H y ty _ (hok y (by simp)) hy (by omega) ⟨rfl,rfl⟩ (Nat.le_refl _),PR.bind_ok,need_mk,PR.bind_ok]
  cases l with
  | nil=>
   have hr':r=[]:=by
    have:am=[]:=List.eq_nil_of_length_eq_zero (by simpa using h1);subst this;exact hr
   have ha':am=[]:=List.eq_nil_of_length_eq_zero (by simpa using h1);subst hr' ha';rw [List.nil_append,show isP [40] (⟨5,[41],0,p⟩::rest)=false from rfl,if_neg (by simp),hself]
  | cons y2 l=>
   obtain⟨q4,r4,rfl,h4⟩:=arms_read H am (y2::l) (am0++[a]) (l0++[y]) g r (by simpa using h1) (by simp) (fun b hb=>ha b (by simp [hb])) (fun z hz=>hok z (by simp [hz])) hr (by omega) (by simpa using hg);rw [List.cons_append,if_pos (mk_isP _ _ _ _),List.tail_cons,hself,h4]
   simp
end
section
def SpA(n:Nat):Prop:=∀ (y:Ex) (f:Nat) (t rest:List Tk),okX y→TkX f y t→t.length≤n+1→cln rest →
 ∃ m,m≤t.length∧∀ g,(atomP (psN n).ar (psN n).po (t++rest)).bind (fun e r=>tailP (psN n).ar (g+m) e r)=tailP (psN n).ar g y rest
structure RdZ (n:Nat):Prop where
 ar:∀ (y:Ex) (f:Nat) (t rest:List Tk),okX y→TkX f y t→t.length≤n→cln rest→8≤levL rest→(psN n).ar (t++rest)=.ok y rest
 fb:∀ (y:Ex) (f:Nat) (t rest:List Tk),okX y→TkX f y t→t.length≤n→cln rest→7≤levL rest→(psN n).fb (t++rest)=.ok y rest
 un:∀ (y:Ex) (f:Nat) (t rest:List Tk),okX y→TkX f y t→t.length≤n→cln rest→1≤levL rest→(psN n).un (t++rest)=.ok y rest
 po:∀ (y:Ex) (f:Nat) (t rest:List Tk),okX y→TkX f y t→t.length≤n→cln rest→1≤levL rest→(psN n).po (t++rest)=.ok y rest
theorem RdZ.reads{n:Nat}(R:RdZ n) (f:Nat):Reads1 (psN n).ar f n:=fun y t rest h1 h2 h3 h4 h5=>R.ar y f t rest h1 h2 h3 h4 h5
theorem post_of{n:Nat}(H:SpA n){y:Ex}{f:Nat}{t rest:List Tk}(hy:okX y) (ht:TkX f y t) (hn:t.length≤n+1) (hc:cln rest) (hl:1≤levL rest):postP (psN n).ar (psN n).po (t++rest)=.ok y rest:=by
 obtain⟨m,hm,h⟩:=H y f t rest hy ht hn hc;have:=h ((t++rest).length+1-m);rw [show(t++rest).length+1-m+m=(t++rest).length+1 by simp only [List.length_append];omega] at this;unfold postP;rw [this,tail_stopB _ _ _ hl]
theorem un_of{n:Nat}(H:SpA n){y:Ex}{f:Nat}{t rest:List Tk}(hy:okX y) (ht:TkX f y t) (hn:t.length≤n+1) (hc:cln rest) (hl:1≤levL rest):unP (psN n) (t++rest)=.ok y rest:=by
 rw [un_post (tk_noUn hy ht rest)];exact post_of H hy ht hn hc hl
theorem rd_of:∀ (n:Nat),(∀ m,m<n→SpA m)→RdZ n
 | 0,_=>⟨fun y f t rest hy ht hn=>by have:=tk_pos hy ht;omega,fun y f t rest hy ht hn=>by have:=tk_pos hy ht;omega,fun y f t rest hy ht hn=>by have:=tk_pos hy ht;omega,fun y f t rest hy ht hn=>by have:=tk_pos hy ht;omega⟩
 | n+1,H=>by
  have h:=H n (by omega);refine⟨fun y f t rest hy ht hn hc hl=>?_,fun y f t rest hy ht hn hc hl=>?_,fun y f t rest hy ht hn hc hl=>?_,fun y f t rest hy ht hn hc hl=>?_⟩
  · exact lv_up (L:=7) (un_of h hy ht hn hc (by omega)) (by omega) (by omega)
  · exact lv_up (L:=6) (un_of h hy ht hn hc (by omega)) (by omega) (by omega)
  · exact un_of h hy ht hn hc hl
  · exact post_of h hy ht hn hc hl
theorem lv_of{n:Nat}(R:RdZ (n+1)){y:Ex}{f:Nat}{t rest:List Tk}(L:Nat) (hy:okX y) (ht:TkX f y t) (hn:t.length≤n+1) (hc:cln rest) (h7:L≤7) (hl:L<levL rest):lv (psN n) L (t++rest)=.ok y rest:=
 lv_up (R.un y f t rest hy ht hn hc (by omega)) h7 hl
theorem atom_roundB{ar po:Psr}{r rest:List Tk}{x:Ex}{p q:Nat}(h:ar r=.ok x (⟨5,[41],0,q⟩::rest)):atomP ar po (⟨5,[40],0,p⟩::r)=.ok x rest:=by
 have h1:plainP (⟨5,[40],0,p⟩::r)=none:=by simp [plainP]
 have h2:isP [91] (⟨5,[40],0,p⟩::r)=false:=rfl;have h3:isP withL (⟨5,[41],0,q⟩::rest)=false:=rfl;unfold atomP;rw [h1];simp only [h2,mk_isP,if_true,List.tail_cons,roundP,h,PR.bind_ok,h3,need_mk,Bool.false_eq_true,if_false]
section
variable {n f:Nat}{x:Ex}{t rest:List Tk}
theorem in_round{m:Nat}{r:List Tk}{p q:Nat}(h:arrowP (psN m) r=.ok x (⟨5,[41],0,q⟩::rest)) (po:Psr):atomP (psN (m+1)).ar po (⟨5,[40],0,p⟩::r)=.ok x rest:=atom_roundB h
theorem at_8(hf:PartF x) (hx:okX x) (R:∀ k,k≤n→RdZ k) (h:TkX (f+1) x t) (hn:t.length≤n+1) (hk:x.k=8):atomP (psN n).ar (psN n).po (t++rest)=.ok x rest:=by
 obtain⟨a,b,hab⟩:=len2 (subs_len hf (m:=2) (by simp [subsX,hk]));have ha:okX a:=hx.sub (by rw [hab];simp);have hb:okX b:=hx.sub (by rw [hab];simp);have hxe:=exEq hk (hf.n0 (by omega) (by omega) (by omega)) (hf.s0 (by omega) (by omega) (by omega) (by omega) (by omega) (by omega)) (hf.op0 (by omega) (by omega)) (hf.a0 (by omega) (by omega)) hab;simp only [TkX,pcX,pcK,hk,hab,mkP,wdP] at h;obtain⟨p0,_,rfl,ta,_,rfl,hta,p1,_,rfl,tb,_,rfl,htb,p2,_,rfl,rfl⟩:=h;simp only [List.length_cons,List.length_append,List.length_nil] at hn;have h1:=tk_pos ha hta;have h2:=tk_pos hb htb;obtain⟨m,rfl⟩:∃ m,n=m+1:=⟨n-1,by omega⟩;simp only [List.cons_append,List.append_assoc,List.nil_append];refine in_round (q:=p2) ?_ _;rw [hxe];have e1:=lv_of (R (m+1) (Nat.le_refl _)) 5 ha hta (rest:=⟨1,fbyL,0,p1⟩::(tb++⟨5,[41],0,p2⟩::rest)) (by omega) ⟨rfl,rfl⟩ (by omega) (show 5<levT 1 fbyL by decide);have e2:=(R m (by omega)).fb b f tb (⟨5,[41],0,p2⟩::rest) hb htb (by omega) ⟨rfl,rfl⟩ (show 7≤levT 5 [41] by decide);have e3:isP arrL (⟨5,[41],0,p2⟩::rest)=false:=rfl
 have e4:fbyP (psN m) (ta++⟨1,fbyL,0,p1⟩::(tb++⟨5,[41],0,p2⟩::rest))=.ok (Ex.mk 8 0 ByteArray.empty 0 [] [a,b]) (⟨5,[41],0,p2⟩::rest):=by
  unfold fbyP;rw [show orP (psN m) (ta++⟨1,fbyL,0,p1⟩::(tb++⟨5,[41],0,p2⟩::rest))=_ from e1,PR.bind_ok,wd_isP,if_pos rfl,List.tail_cons,e2,PR.bind_ok]
 unfold arrowP;rw [e4,PR.bind_ok,e3];rfl
theorem at_9(hf:PartF x) (hx:okX x) (R:∀ k,k≤n→RdZ k) (h:TkX (f+1) x t) (hn:t.length≤n+1) (hk:x.k=9):atomP (psN n).ar (psN n).po (t++rest)=.ok x rest:=by
 obtain⟨a,b,hab⟩:=len2 (subs_len hf (m:=2) (by simp [subsX,hk]));have ha:okX a:=hx.sub (by rw [hab];simp);have hb:okX b:=hx.sub (by rw [hab];simp);have hxe:=exEq hk (hf.n0 (by omega) (by omega) (by omega)) (hf.s0 (by omega) (by omega) (by omega) (by omega) (by omega) (by omega)) (hf.op0 (by omega) (by omega)) (hf.a0 (by omega) (by omega)) hab;simp only [TkX,pcX,pcK,hk,hab,mkP,wdP] at h;obtain⟨p0,_,rfl,ta,_,rfl,hta,p1,_,rfl,tb,_,rfl,htb,p2,_,rfl,rfl⟩:=h;simp only [List.length_cons,List.length_append,List.length_nil] at hn;have h1:=tk_pos ha hta;have h2:=tk_pos hb htb;obtain⟨m,rfl⟩:∃ m,n=m+1:=⟨n-1,by omega⟩;simp only [List.cons_append,List.append_assoc,List.nil_append];refine in_round (q:=p2) ?_ _;rw [hxe];have e1:=lv_of (R (m+1) (Nat.le_refl _)) 6 ha hta (rest:=⟨5,arrL,0,p1⟩::(tb++⟨5,[41],0,p2⟩::rest)) (by omega) ⟨rfl,rfl⟩ (by omega) (show 6<levT 5 arrL by decide);have e2:=(R m (by omega)).ar b f tb (⟨5,[41],0,p2⟩::rest) hb htb (by omega) ⟨rfl,rfl⟩ (show 8≤levT 5 [41] by decide);unfold arrowP;rw [show fbyP (psN m) (ta++⟨5,arrL,0,p1⟩::(tb++⟨5,[41],0,p2⟩::rest))=_ from e1,PR.bind_ok,mk_isP,if_pos rfl,List.tail_cons,e2];rfl
theorem in_un{m:Nat}{z:Tk}{r:List Tk}{p q:Nat}(h:unP (psN m) (z::r)=.ok x (⟨5,[41],0,q⟩::rest)) (po:Psr):atomP (psN (m+1)).ar po (⟨5,[40],0,p⟩::z::r)=.ok x rest:=
 in_round (q:=q) (lv_up (L:=7) h (by omega) (show 7<levT 5 [41] by decide)) po
theorem at_5(hf:PartF x) (hx:okX x) (R:∀ k,k≤n→RdZ k) (h:TkX (f+1) x t) (hn:t.length≤n+1) (hk:x.k=5):atomP (psN n).ar (psN n).po (t++rest)=.ok x rest:=by
 obtain⟨a,hab⟩:=len1 (subs_len hf (m:=1) (by simp [subsX,hk]));have ha:okX a:=hx.sub (by rw [hab];simp);rcases hf.op5 hk with ho | ho
 · have hxe:=exEq hk (hf.n0 (by omega) (by omega) (by omega)) (hf.s0 (by omega) (by omega) (by omega) (by omega) (by omega) (by omega)) ho (hf.a0 (by omega) (by omega)) hab;simp only [TkX,pcX,pcK,hk,ho,hab,mkP,wdP] at h;obtain⟨p0,_,rfl,p1,_,rfl,ta,_,rfl,hta,p2,_,rfl,rfl⟩:=h;simp only [List.length_cons,List.length_append,List.length_nil] at hn;have h1:=tk_pos ha hta;obtain⟨m,rfl⟩:∃ m,n=m+1:=⟨n-1,by omega⟩;simp only [List.cons_append,List.append_assoc,List.nil_append];refine in_un (q:=p2) ?_ _;rw [hxe];have e1:=(R m (by omega)).un a f ta (⟨5,[41],0,p2⟩::rest) ha hta (by omega) ⟨rfl,rfl⟩ (show 1≤levT 5 [41] by decide);unfold unP;rw [mk_isP,if_pos rfl,List.tail_cons,e1];rfl
 · have hxe:=exEq hk (hf.n0 (by omega) (by omega) (by omega)) (hf.s0 (by omega) (by omega) (by omega) (by omega) (by omega) (by omega)) ho (hf.a0 (by omega) (by omega)) hab;simp only [TkX,pcX,pcK,hk,ho,hab,mkP,wdP] at h;obtain⟨p0,_,rfl,p1,_,rfl,ta,_,rfl,hta,p2,_,rfl,rfl⟩:=h;simp only [List.length_cons,List.length_append,List.length_nil] at hn;have h1:=tk_pos ha hta;obtain⟨m,rfl⟩:∃ m,n=m+1:=⟨n-1,by omega⟩;simp only [List.cons_append,List.append_assoc,List.nil_append];refine in_un (q:=p2) ?_ _;rw [hxe];have e1:=(R m (by omega)).un a f ta (⟨5,[41],0,p2⟩::rest) ha hta (by omega) ⟨rfl,rfl⟩ (show 1≤levT 5 [41] by decide);unfold unP;rw [show isP [45] (⟨1,notL,0,p1⟩::(ta++⟨5,[41],0,p2⟩::rest))=false from rfl,if_neg (by simp),wd_isP,if_pos rfl,List.tail_cons,e1];rfl
theorem at_10(hf:PartF x) (hx:okX x) (R:∀ k,k≤n→RdZ k) (h:TkX (f+1) x t) (hn:t.length≤n+1) (hk:x.k=10):atomP (psN n).ar (psN n).po (t++rest)=.ok x rest:=by
 obtain⟨a,hab⟩:=len1 (subs_len hf (m:=1) (by simp [subsX,hk]));have ha:okX a:=hx.sub (by rw [hab];simp);have hxe:=exEq hk (hf.n0 (by omega) (by omega) (by omega)) (hf.s0 (by omega) (by omega) (by omega) (by omega) (by omega) (by omega)) (hf.op0 (by omega) (by omega)) (hf.a0 (by omega) (by omega)) hab;simp only [TkX,pcX,pcK,hk,hab,mkP,wdP] at h;obtain⟨p0,_,rfl,p1,_,rfl,ta,_,rfl,hta,p2,_,rfl,rfl⟩:=h;simp only [List.length_cons,List.length_append,List.length_nil] at hn;have h1:=tk_pos ha hta;obtain⟨m,rfl⟩:∃ m,n=m+1:=⟨n-1,by omega⟩;simp only [List.cons_append,List.append_assoc,List.nil_append];refine in_un (q:=p2) ?_ _;rw [hxe];have e1:=(R m (by omega)).un a f ta (⟨5,[41],0,p2⟩::rest) ha hta (by omega) ⟨rfl,rfl⟩ (show 1≤levT 5 [41] by decide);unfold unP;rw [show isP [45] (⟨1,preL,0,p1⟩::(ta++⟨5,[41],0,p2⟩::rest))=false from rfl,if_neg (by simp),show isP notL (⟨1,preL,0,p1⟩::(ta++⟨5,[41],0,p2⟩::rest))=false from rfl,if_neg (by simp),wd_isP,if_pos rfl,List.tail_cons,e1];rfl
theorem in_atom{m:Nat}{z:Tk}{r:List Tk}{p q:Nat}(hz:noUn (z::r)) (h:atomP (psN m).ar (psN m).po (z::r)=.ok x (⟨5,[41],0,q⟩::rest)) (po:Psr):atomP (psN (m+1)).ar po (⟨5,[40],0,p⟩::z::r)=.ok x rest:=
 in_un (q:=q) (by rw [un_post hz];exact post_atom h (show 1≤levT 5 [41] by decide)) po
theorem at_7(hf:PartF x) (hx:okX x) (R:∀ k,k≤n→RdZ k) (h:TkX (f+1) x t) (hn:t.length≤n+1) (hk:x.k=7):atomP (psN n).ar (psN n).po (t++rest)=.ok x rest:=by
 obtain⟨a,b,c,hab⟩:=len3 (subs_len hf (m:=3) (by simp [subsX,hk]));have ha:okX a:=hx.sub (by rw [hab];simp);have hb:okX b:=hx.sub (by rw [hab];simp);have hc:okX c:=hx.sub (by rw [hab];simp);have hxe:=exEq hk (hf.n0 (by omega) (by omega) (by omega)) (hf.s0 (by omega) (by omega) (by omega) (by omega) (by omega) (by omega)) (hf.op0 (by omega) (by omega)) (hf.a0 (by omega) (by omega)) hab;simp only [TkX,pcX,pcK,hk,hab,mkP,wdP] at h;obtain⟨p0,_,rfl,p1,_,rfl,ta,_,rfl,hta,p2,_,rfl,tb,_,rfl,htb,p3,_,rfl,tc,_,rfl,htc,p4,_,rfl,rfl⟩:=h;simp only [List.length_cons,List.length_append,List.length_nil] at hn;have h1:=tk_pos ha hta;obtain⟨m,rfl⟩:∃ m,n=m+1:=⟨n-1,by omega⟩;simp only [List.cons_append,List.append_assoc,List.nil_append];refine in_atom (q:=p4) ⟨rfl,rfl,rfl⟩ ?_ _;rw [hxe];have Rm:=R m (by omega);have e1:=Rm.ar a f ta (⟨1,thenL,0,p2⟩::(tb++⟨1,elseL,0,p3⟩::(tc++⟨5,[41],0,p4⟩::rest))) ha hta (by omega) ⟨rfl,rfl⟩ (show 8≤levT 1 thenL by decide);have e2:=Rm.ar b f tb (⟨1,elseL,0,p3⟩::(tc++⟨5,[41],0,p4⟩::rest)) hb htb (by omega) ⟨rfl,rfl⟩ (show 8≤levT 1 elseL by decide);have e3:=Rm.ar c f tc (⟨5,[41],0,p4⟩::rest) hc htc (by omega) ⟨rfl,rfl⟩ (show 8≤levT 5 [41] by decide);have g1:∀ r,plainP (⟨1,ifL,0,p1⟩::r)=none:=fun r=>by simp [plainP,ifL,trueL,falseL]
 have g2:∀ r,isP [91] (⟨1,ifL,0,p1⟩::r)=false:=fun r=>rfl;have g3:∀ r,isP [40] (⟨1,ifL,0,p1⟩::r)=false:=fun r=>rfl;have g4:∀ r,isP mergeL (⟨1,ifL,0,p1⟩::r)=false:=fun r=>rfl;unfold atomP;rw [g1];simp only [g2,g3,g4,wd_isP,if_true,Bool.false_eq_true,if_false,List.tail_cons,ifP,e1,PR.bind_ok,need_wd,e2,e3]
theorem in_bin{m:Nat}{r:List Tk}{p q:Nat}(L:Nat) (h1:1≤L) (h5:L≤5) (h:lv (psN m) L r=.ok x (⟨5,[41],0,q⟩::rest)) (po:Psr):atomP (psN (m+1)).ar po (⟨5,[40],0,p⟩::r)=.ok x rest:=by
 refine in_round (q:=q) ?_ po;have hs:∀ ops,signT ops 5 [41]=0→∀ g (sub:Psr),chainP sub ops g x (⟨5,[41],0,q⟩::rest)=.ok x (⟨5,[41],0,q⟩::rest):=fun ops ho g sub=>chain_stopB _ _ _ _ (by rw [signP_tok];exact ho)
 have e1:L=1→sumP (psN m) r=.ok x (⟨5,[41],0,q⟩::rest):=fun e=>by
  subst e;unfold sumP;rw [show prodP (psN m) r=_ from h,PR.bind_ok,hs _ (by decide)]
 have e2:L≤2→cmpP (psN m) r=.ok x (⟨5,[41],0,q⟩::rest):=fun e=>by
  unfold cmpP;rw [show sumP (psN m) r=.ok x (⟨5,[41],0,q⟩::rest) by rcases(show L=1∨L=2 by omega) with rfl | rfl;exact e1 rfl;exact h,PR.bind_ok,hs _ (by decide)]
 have e3:L≤3→andP (psN m) r=.ok x (⟨5,[41],0,q⟩::rest):=fun e=>by
  unfold andP;rw [show cmpP (psN m) r=.ok x (⟨5,[41],0,q⟩::rest) by rcases(show L≤2∨L=3 by omega) with hh | rfl;exact e2 hh;exact h,PR.bind_ok,hs _ (by decide)]
 have e4:L≤4→orP (psN m) r=.ok x (⟨5,[41],0,q⟩::rest):=fun e=>by
  unfold orP;rw [show andP (psN m) r=.ok x (⟨5,[41],0,q⟩::rest) by rcases(show L≤3∨L=4 by omega) with hh | rfl;exact e3 hh;exact h,PR.bind_ok,hs _ (by decide)]
 have e5:orP (psN m) r=.ok x (⟨5,[41],0,q⟩::rest):=by
  rcases(show L≤4∨L=5 by omega) with hh | rfl
  · exact e4 hh
  · exact h
 unfold arrowP fbyP;rw [e5,PR.bind_ok,show isP fbyL (⟨5,[41],0,q⟩::rest)=false from rfl,if_neg (by simp),PR.bind_ok,show isP arrL (⟨5,[41],0,q⟩::rest)=false from rfl];rfl
def opLev(op:Int):Nat:=if op=5∨op=6∨op=7 then 1 else if op=3∨op=4 then 2 else if op=8 then 4 else if op=9∨op=10 then 5 else 3
def opsOf:Nat→List (Int × List UInt8)
 | 1=>opsProd
 | 2=>opsSum
 | 3=>opsCmp
 | 4=>opsAnd
 | _=>opsOr
theorem sign_tok(op:Int) (h1:3≤op) (h2:op≤16):∃ k,signPc op=.tk k (signL op) 0∧signT (opsOf (opLev op)) k (signL op)=op∧levT k (signL op)=opLev op∧1≤opLev op∧opLev op≤5∧isT [40] k (signL op)=false∧isT everyL k (signL op)=false:=by
 obtain rfl | rfl | rfl | rfl | rfl | rfl | rfl | rfl | rfl | rfl | rfl | rfl | rfl | rfl:op=3∨op=4∨op=5∨op=6∨op=7∨op=8∨op=9∨op=10∨op=11∨op=12∨op=13∨op=14∨op=15∨op=16:=by omega
 all_goals first | exact⟨5,rfl,by decide,by decide,by decide,by decide,by decide,by decide⟩ | exact⟨1,rfl,by decide,by decide,by decide,by decide,by decide,by decide⟩
theorem at_6(hf:PartF x) (hx:okX x) (R:∀ k,k≤n→RdZ k) (h:TkX (f+1) x t) (hn:t.length≤n+1) (hk:x.k=6):atomP (psN n).ar (psN n).po (t++rest)=.ok x rest:=by
 obtain⟨a,b,hab⟩:=len2 (subs_len hf (m:=2) (by simp [subsX,hk]));have ha:okX a:=hx.sub (by rw [hab];simp);have hb:okX b:=hx.sub (by rw [hab];simp);have hxe:=exEq hk (hf.n0 (by omega) (by omega) (by omega)) (hf.s0 (by omega) (by omega) (by omega) (by omega) (by omega) (by omega)) rfl (hf.a0 (by omega) (by omega)) hab;obtain⟨ho1,ho2⟩:=hf.op6 hk;obtain⟨k,s1,s2,s3,s4,s5,s6,s7⟩:=sign_tok x.op ho1 ho2;simp only [TkX,pcX,pcK,hk,hab,mkP,wdP,s1] at h;obtain⟨p0,_,rfl,ta,_,rfl,hta,p1,_,rfl,tb,_,rfl,htb,p2,_,rfl,rfl⟩:=h;simp only [List.length_cons,List.length_append,List.length_nil] at hn;have h1:=tk_pos ha hta;have h2:=tk_pos hb htb;obtain⟨m,rfl⟩:∃ m,n=m+1:=⟨n-1,by omega⟩;simp only [List.cons_append,List.append_assoc,List.nil_append];generalize x.op=op at *;refine in_bin (q:=p2) (opLev op) s4 s5 ?_ _;rw [hxe];generalize hL:opLev op=L at *
 have e0:∀ M,M<L→lv (psN m) M (ta++⟨k,signL op,0,p1⟩::(tb++⟨5,[41],0,p2⟩::rest))=.ok a (⟨k,signL op,0,p1⟩::(tb++⟨5,[41],0,p2⟩::rest)):=fun M hM=>
  lv_of (R (m+1) (Nat.le_refl _)) M ha hta (by omega) ⟨s6,s7⟩ (by omega) (show M<levT k (signL op) by omega)
 have e1:∀ M,M<L→lv (psN m) M (tb++⟨5,[41],0,p2⟩::rest)=.ok b (⟨5,[41],0,p2⟩::rest):=fun M hM=>
  lv_of (R (m+1) (Nat.le_refl _)) M hb htb (by omega) ⟨rfl,rfl⟩ (by omega) (show M<levT 5 [41] by rw [show levT 5 [41]=8 by decide];omega)
 have hne:signT (opsOf L) k (signL op)≠0:=by rw [s2];omega
 have ch:∀ (sub:Psr) g,sub (tb++⟨5,[41],0,p2⟩::rest)=.ok b (⟨5,[41],0,p2⟩::rest)→chainP sub (opsOf L) (g+1) a (⟨k,signL op,0,p1⟩::(tb++⟨5,[41],0,p2⟩::rest))=.ok (Ex.mk 6 0 ByteArray.empty op [] [a,b]) (⟨5,[41],0,p2⟩::rest):=fun sub g hs=>by
  have:=chain_one sub (opsOf L) g a b ⟨k,signL op,0,p1⟩ (r:=tb++⟨5,[41],0,p2⟩::rest) hne hs (by
   rw [signP_tok]
   show signT (opsOf L) 5 [41]=0
   obtain rfl | rfl | rfl | rfl | rfl:L=1∨L=2∨L=3∨L=4∨L=5:=by omega
   all_goals decide)
  rw [this]
  show PR.ok (binX (signT (opsOf L) k (signL op)) a b) _=_
  rw [s2];rfl
 obtain rfl | rfl | rfl | rfl | rfl:L=1∨L=2∨L=3∨L=4∨L=5:=by omega
 · show prodP (psN m) _=_
   unfold prodP;rw [show unP (psN m) (ta++_)=_ from e0 0 (by omega),PR.bind_ok];exact ch _ _ (e1 0 (by omega))
 · show sumP (psN m) _=_
   unfold sumP;rw [show prodP (psN m) (ta++_)=_ from e0 1 (by omega),PR.bind_ok];exact ch _ _ (e1 1 (by omega))
 · show cmpP (psN m) _=_
   unfold cmpP;rw [show sumP (psN m) (ta++_)=_ from e0 2 (by omega),PR.bind_ok];exact ch _ 0 (e1 2 (by omega))
 · show andP (psN m) _=_
   unfold andP;rw [show cmpP (psN m) (ta++_)=_ from e0 3 (by omega),PR.bind_ok];exact ch _ _ (e1 3 (by omega))
 · show orP (psN m) _=_
   unfold orP;rw [show andP (psN m) (ta++_)=_ from e0 4 (by omega),PR.bind_ok];exact ch _ _ (e1 4 (by omega))
end
end
end Go.Proofs.YtokiaaapgkdpmaaGreatDoor
