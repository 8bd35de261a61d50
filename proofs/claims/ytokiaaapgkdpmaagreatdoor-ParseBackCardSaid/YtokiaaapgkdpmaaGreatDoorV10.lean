/- Parts of the proof: PaE, PaL. Conditions: each theorem's own. -/
import Derived.Test.YtokiaaapgkdpmaaGreatDoorV09
namespace Go.Proofs.YtokiaaapgkdpmaaGreatDoor
set_option linter.unusedVariables false
set_option linter.unusedSimpArgs false
set_option maxRecDepth 100000
set_option maxHeartbeats 40000000
section
section
variable {n f:Nat}{x:Ex}{t rest:List Tk}
theorem at_leaf(hf:PartF x) (h:TkX (f+1) x t) (hc:cln rest) (hk:x.k=1∨x.k=2∨x.k=3∨x.k=4∨x.k=17):atomP (psN n).ar (psN n).po (t++rest)=.ok x rest:=by
 have hsub:=subs_none hf (by rcases hk with hk | hk | hk | hk | hk <;> simp [subsX,hk]);have hop:=hf.op0 (by omega) (by omega);have har:=hf.a0 (by omega) (by omega);have hself:ofB x.s.data.toList=x.s:=ofB_self _;rcases hk with hk | hk | hk | hk | hk
 · have hxe:=exEq hk rfl (hf.s0 (by omega) (by omega) (by omega) (by omega) (by omega) (by omega)) hop har hsub;simp only [TkX,pcX,pcK,leafPc,hk] at h;obtain⟨p,_,rfl,rfl⟩:=h;have e1:plainP ([⟨3,Lib.itoa x.n,x.n,p⟩]++rest)=some (Ex.mk 1 x.n ByteArray.empty 0 [] [],rest):=by simp [plainP]
   unfold atomP;rw [e1];exact congrArg (fun z=>PR.ok z rest) hxe.symm
 · have hs:=hf.s0 (by omega) (by omega) (by omega) (by omega) (by omega) (by omega);rcases hf.n2 (.inl hk) with hn | hn
   · have hxe:=exEq hk hn hs hop har hsub;simp only [TkX,pcX,pcK,leafPc,hk,hn] at h;obtain⟨p,_,rfl,rfl⟩:=h;rw [hxe]
     simp [atomP,plainP,trueL,falseL]
   · have hxe:=exEq hk hn hs hop har hsub;simp only [TkX,pcX,pcK,leafPc,hk,hn] at h;obtain⟨p,_,rfl,rfl⟩:=h;rw [hxe]
     simp [atomP,plainP,trueL,falseL]
 · have hxe:=exEq hk (hf.n0 (by omega) (by omega) (by omega)) rfl hop har hsub;have hl:=hf.low (.inl hk);simp only [TkX,pcX,pcK,leafPc,hk] at h;obtain⟨p,_,rfl,rfl⟩:=h
   have e1:plainP ([⟨1,x.s.data.toList,0,p⟩]++rest)=none:=by
    simp [plainP,low_no hl (show lowB trueL=false by decide),low_no hl (show lowB falseL=false by decide)]
   have e2:∀ w,lowB w=false→isP w ([⟨1,x.s.data.toList,0,p⟩]++rest)=false:=fun w hw=>low_isT 1 hl hw;unfold atomP;rw [e1];simp only [e2 [91] (by decide),e2 [40] (by decide),e2 mergeL (by decide),e2 ifL (by decide),Bool.false_eq_true,if_false];rw [show([⟨1,x.s.data.toList,0,p⟩]++rest:List Tk)=⟨1,x.s.data.toList,0,p⟩::rest from rfl,name_ok hl,PR.bind_ok,hc.1,if_neg (by simp),hself];exact congrArg (fun z=>PR.ok z rest) hxe.symm
 · have hxe:=exEq hk (hf.n0 (by omega) (by omega) (by omega)) rfl hop har hsub;simp only [TkX,pcX,pcK,leafPc,hk] at h;obtain⟨p,_,rfl,rfl⟩:=h;have e1:plainP ([⟨2,x.s.data.toList,0,p⟩]++rest)=some (Ex.mk 4 0 (ofB x.s.data.toList) 0 [] [],rest):=by simp [plainP]
   unfold atomP;rw [e1,hself];exact congrArg (fun z=>PR.ok z rest) hxe.symm
 · have hxe:=exEq hk (hf.n0 (by omega) (by omega) (by omega)) rfl hop har hsub;simp only [TkX,pcX,pcK,leafPc,hk] at h;obtain⟨p,_,rfl,rfl⟩:=h;have e1:plainP ([⟨4,x.s.data.toList,0,p⟩]++rest)=some (Ex.mk 17 0 (ofB x.s.data.toList) 0 [] [],rest):=by simp [plainP]
   unfold atomP;rw [e1,hself];exact congrArg (fun z=>PR.ok z rest) hxe.symm
theorem at_14(hf:PartF x) (hx:okX x) (R:RdZ n) (h:TkX (f+1) x t) (hn:t.length≤n+1) (hk:x.k=14):atomP (psN n).ar (psN n).po (t++rest)=.ok x rest:=by
 have hxe:=exEq hk (hf.n0 (by omega) (by omega) (by omega)) (hf.s0 (by omega) (by omega) (by omega) (by omega) (by omega) (by omega)) (hf.op0 (by omega) (by omega)) (hf.a0 (by omega) (by omega)) rfl;simp only [TkX,pcX,pcK,hk,mkP,TkP] at h;obtain⟨p0,_,rfl,h⟩:=h;obtain⟨ts,_,rfl,hts,h⟩:=(TkP_app _ _ _ _).1 h;obtain⟨p1,_,rfl,rfl⟩:=h;simp only [List.length_cons,List.length_append,List.length_nil] at hn
 have hl:x.subs≠[]:=fun e=>by
  have:=hf.lo;rw [show subsX x=(1,8) by simp [subsX,hk],e] at this
  simp at this
 have e1:=list_read (R.reads f) (m:=[93]) (p:=p1) (rest:=rest) (by decide) x.subs hl ts (fun y hy=>hx.sub hy) hts (by omega);have g1:∀ r,plainP (⟨5,[91],0,p0⟩::r)=none:=fun r=>by simp [plainP]
 simp only [List.cons_append,List.append_assoc,List.nil_append];unfold atomP;rw [g1];simp only [mk_isP,if_true,List.tail_cons,e1,PR.bind_ok];exact congrArg (fun z=>PR.ok z rest) hxe.symm
theorem call_read{ar po:Psr}{s:List UInt8}(hl:lowB s=true) (p q:Nat) (r:List Tk):atomP ar po (⟨1,s,0,p⟩::⟨5,[40],0,q⟩::r)=callP ar po s r:=by
 have e1:plainP (⟨1,s,0,p⟩::⟨5,[40],0,q⟩::r)=none:=by
  simp [plainP,low_no hl (show lowB trueL=false by decide),low_no hl (show lowB falseL=false by decide)]
 have e2:∀ w,lowB w=false→isP w (⟨1,s,0,p⟩::⟨5,[40],0,q⟩::r)=false:=fun w hw=>low_isT 1 hl hw;unfold atomP;rw [e1];simp only [e2 [91] (by decide),e2 [40] (by decide),e2 mergeL (by decide),e2 ifL (by decide),Bool.false_eq_true,if_false];rw [name_ok hl,PR.bind_ok,mk_isP,if_pos rfl,List.tail_cons]
theorem args_read{ar po:Psr}(H:Reads1 ar f n){s:List UInt8}(l:List Ex) (hok:∀ y∈l,okX y){ts:List Tk}(h:TkP (TkX f) (commaPc l) ts) (hn:ts.length≤n) (p:Nat) (r:List Tk):
 callP ar po s (ts++⟨5,[41],0,p⟩::r)=everyP po s l r:=by
 cases l with
 | nil=>
  have h':ts=[]:=h;subst h';unfold callP;rw [List.nil_append,mk_isP,if_pos rfl,List.tail_cons]
 | cons y l=>
  have h0:=h;rw [comma_cons] at h0;simp only [TkP] at h0;obtain⟨ty,r',e,hy,_⟩:=h0
  have hsh:isP [41] (ts++⟨5,[41],0,p⟩::r)=false:=by
   rw [e,List.append_assoc];exact tk_noShut (hok y (by simp)) hy _
  unfold callP;rw [hsh,if_neg (by simp),list_read H (by decide) (y::l) (by simp) ts hok h hn,PR.bind_ok]
theorem at_13(hf:PartF x) (hx:okX x) (R:∀ k,k≤n→RdZ k) (h:TkX (f+1) x t) (hn:t.length≤n+1) (hc:cln rest) (hk:x.k=13):atomP (psN n).ar (psN n).po (t++rest)=.ok x rest:=by
 have hs:=hf.low (by omega);have hop:=hf.op0 (by omega) (by omega);have har:=hf.a0 (by omega) (by omega);have hself:ofB x.s.data.toList=x.s:=ofB_self _;rcases hf.n2 (.inr hk) with h0 | h0
 · have hxe:=exEq hk h0 rfl hop har rfl;simp only [TkX,pcX,pcK,hk,callPc,h0,mkP,wdP] at h;obtain⟨p0,_,rfl,p1,_,rfl,h⟩:=h;obtain⟨ts,_,rfl,hts,h⟩:=(TkP_app _ _ _ _).1 h;obtain⟨p2,_,rfl,rfl⟩:=h;simp only [List.length_cons,List.length_append,List.length_nil] at hn;simp only [List.cons_append,List.append_assoc,List.nil_append];rw [call_read hs,args_read ((R n (Nat.le_refl _)).reads f) x.subs (fun y hy=>hx.sub hy) hts (by omega)];unfold everyP;rw [hc.2,if_neg (by simp),hself];exact congrArg (fun z=>PR.ok z rest) hxe.symm
 · have hlen:1≤x.subs.length:=by
    have h:=hf.lo;rw [show subsX x=(x.n,6+x.n) by simp [subsX,hk],h0] at h;simp only at h;omega
   obtain⟨l,y,hly⟩:∃ l y,x.subs=l++[y]:=by
    rcases List.eq_nil_or_concat x.subs with he | ⟨l,y,he⟩
    · rw [he] at hlen;simp at hlen
    · exact⟨l,y,by rw [he,List.concat_eq_append]⟩
   have hxe:=exEq hk h0 rfl hop har hly;have hy:okX y:=hx.sub (by rw [hly];simp);have hg:gX (l++[y]) ((l++[y]).length-1)=y:=by simp [gX]
   have htk:(l++[y]).take ((l++[y]).length-1)=l:=by simp
   simp only [TkX,pcX,pcK,hk,callPc,h0,if_true,hly,hg,htk,mkP,wdP] at h;obtain⟨p0,_,rfl,p1,_,rfl,p2,_,rfl,h⟩:=h;obtain⟨ts,_,rfl,hts,h⟩:=(TkP_app _ _ _ _).1 h;obtain⟨p3,_,rfl,p4,_,rfl,ty,_,rfl,hty,p5,_,rfl,rfl⟩:=h;simp only [List.length_cons,List.length_append,List.length_nil] at hn;obtain⟨m,rfl⟩:∃ m,n=m+1:=⟨n-1,by omega⟩;simp only [List.cons_append,List.append_assoc,List.nil_append];have Rm:=R m (by omega);have hnu:∀ r,noUn (⟨1,x.s.data.toList,0,p1⟩::r):=fun r=>⟨low_isT (w:=[45]) 1 hs (by decide),low_isT (w:=notL) 1 hs (by decide),low_isT (w:=preL) 1 hs (by decide)⟩;refine in_atom (q:=p5) (hnu _) ?_ _;have e1:=Rm.po y f ty (⟨5,[41],0,p5⟩::rest) hy hty (by omega) ⟨rfl,rfl⟩ (show 1≤levT 5 [41] by decide);rw [call_read hs,args_read (Rm.reads f) l (fun z hz=>hx.sub (by rw [hly];simp [hz])) hts (by omega)];unfold everyP;rw [wd_isP,if_pos rfl,List.tail_cons,e1,PR.bind_ok,hself];exact congrArg (fun z=>PR.ok z _) hxe.symm
theorem at_16(hf:PartF x) (hx:okX x) (R:RdZ n) (h:TkX (f+1) x t) (hn:t.length≤n+1) (hk:x.k=16):atomP (psN n).ar (psN n).po (t++rest)=.ok x rest:=by
 obtain⟨a,b,c,hab⟩:=len3 (subs_len hf (m:=3) (by simp [subsX,hk]));have ha:okX a:=hx.sub (by rw [hab];simp);have hb:okX b:=hx.sub (by rw [hab];simp);have hc:okX c:=hx.sub (by rw [hab];simp);have hxe:=exEq hk (hf.n0 (by omega) (by omega) (by omega)) (hf.s0 (by omega) (by omega) (by omega) (by omega) (by omega) (by omega)) (hf.op0 (by omega) (by omega)) (hf.a0 (by omega) (by omega)) hab;simp only [TkX,pcX,pcK,hk,hab,mkP,wdP] at h;obtain⟨p0,_,rfl,ta,_,rfl,hta,p1,_,rfl,p2,_,rfl,tb,_,rfl,htb,p3,_,rfl,p4,_,rfl,tc,_,rfl,htc,p5,_,rfl,rfl⟩:=h;simp only [List.length_cons,List.length_append,List.length_nil] at hn;simp only [List.cons_append,List.append_assoc,List.nil_append];have e1:=R.ar a f ta (⟨1,withL,0,p1⟩::⟨5,[91],0,p2⟩::(tb++⟨5,[93],0,p3⟩::⟨5,[61],0,p4⟩::(tc++⟨5,[41],0,p5⟩::rest))) ha hta (by omega) ⟨rfl,rfl⟩ (show 8≤levT 1 withL by decide);have e2:=R.ar b f tb (⟨5,[93],0,p3⟩::⟨5,[61],0,p4⟩::(tc++⟨5,[41],0,p5⟩::rest)) hb htb (by omega) ⟨rfl,rfl⟩ (show 8≤levT 5 [93] by decide);have e3:=R.ar c f tc (⟨5,[41],0,p5⟩::rest) hc htc (by omega) ⟨rfl,rfl⟩ (show 8≤levT 5 [41] by decide);have g1:∀ r,plainP (⟨5,[40],0,p0⟩::r)=none:=fun r=>by simp [plainP]
 have g2:∀ r,isP [91] (⟨5,[40],0,p0⟩::r)=false:=fun r=>rfl;unfold atomP;rw [g1];simp only [g2,mk_isP,wd_isP,if_true,Bool.false_eq_true,if_false,List.tail_cons,roundP,e1,PR.bind_ok,need_mk,e2,e3];exact congrArg (fun z=>PR.ok z rest) hxe.symm
theorem merge_pos(hx:okX x) (hk:x.k=12):1≤x.arms.length:=by
 have h:=hx x (by rw [partsX_eq];exact List.mem_cons_self);simp only [partX,Bool.and_eq_true] at h;have ha:armsX x=true:=h.1.1.1.2;unfold armsX at ha;rw [hk] at ha;simp only [Bool.and_eq_true] at ha;have h2:=ha.2
 simp at h2
 omega
theorem at_12(hf:PartF x) (hx:okX x) (R:∀ k,k≤n→RdZ k) (h:TkX (f+1) x t) (hn:t.length≤n+1) (hk:x.k=12):atomP (psN n).ar (psN n).po (t++rest)=.ok x rest:=by
 have hs:=hf.low (by omega);have hxe:=exEq hk (hf.n0 (by omega) (by omega) (by omega)) rfl (hf.op0 (by omega) (by omega)) rfl rfl;have hself:ofB x.s.data.toList=x.s:=ofB_self _
 have hlen:x.arms.length=x.subs.length:=by
  have h1:=hf.hi;have h2:=hf.lo;rw [show subsX x=((x.arms.length:Int),(x.arms.length:Int)) by simp [subsX,hk]] at h1 h2;simp only at h1 h2;omega
 have hpos:1≤x.subs.length:=by have:=merge_pos hx hk;omega
 simp only [TkX,pcX,pcK,hk,mkP,wdP,TkP] at h;obtain⟨p0,_,rfl,p1,_,rfl,p2,_,rfl,h⟩:=h;obtain⟨ts,_,rfl,hts,h⟩:=(TkP_app _ _ _ _).1 h;obtain⟨p3,_,rfl,rfl⟩:=h;simp only [List.length_cons,List.length_append,List.length_nil] at hn;obtain⟨m,rfl⟩:∃ m,n=m+1:=⟨n-1,by omega⟩;have Rm:=R m (by omega);simp only [List.cons_append,List.append_assoc,List.nil_append];refine in_atom (q:=p3) ⟨rfl,rfl,rfl⟩ ?_ _;have g1:∀ r,plainP (⟨1,mergeL,0,p1⟩::r)=none:=fun r=>by simp [plainP,mergeL,trueL,falseL]
 have g2:∀ r,isP [91] (⟨1,mergeL,0,p1⟩::r)=false:=fun r=>rfl;have g3:∀ r,isP [40] (⟨1,mergeL,0,p1⟩::r)=false:=fun r=>rfl
 have hL:∀ (am:List (List UInt8)) (l:List Ex) (r:List Tk),am.length=l.length→TkP (TkX f) (mergePc am l) r→l.length≤r.length:=by
  intro am
  induction am with
  | nil=>intro l r h _;simp at h;omega
  | cons a am ih=>
   intro l r h hr
   cases l with
   | nil=>simp
   | cons y l=>
    simp only [mergePc,mkP,TkP] at hr;obtain⟨q0,rr,rfl,hr⟩:=hr
    have:∃ z r2,rr=z::r2∧TkP (TkX f) (.sp::.tk 5 [45,62] 0::.sp::.sub y::.tk 5 [41] 0::mergePc am l) r2:=by
     unfold armPc at hr
     split at hr
     · obtain⟨q,r2,rfl,hr⟩:=hr;exact⟨_,r2,rfl,hr⟩
     · obtain⟨q,r2,rfl,hr⟩:=hr;exact⟨_,r2,rfl,hr⟩
    obtain⟨z,r2,e,hr2⟩:=this;simp only [TkP] at hr2;obtain⟨_,_,rfl,ty,_,rfl,_,_,r3,rfl,hr3⟩:=hr2;have:=ih l r3 (by simpa using h) hr3;rw [e];simp only [List.length_cons,List.length_append];omega
 have hle:=hL _ _ _ (by simpa using hlen) hts;obtain⟨q,r,rfl,hr⟩:=arms_read (Rm.reads f) (p:=p3) (rest:=rest) x.arms x.subs [] [] (ts.length+rest.length+1) ts hlen hpos (fun a ha=>hf.arms a ha) (fun y hy=>hx.sub hy) hts (by omega) (by omega);unfold atomP;rw [g1];simp only [g2,g3,wd_isP,if_true,Bool.false_eq_true,if_false,List.tail_cons,mergeP,name_ok hs,PR.bind_ok,List.cons_append,need_mk];rw [show(r++⟨5,[41],0,p3⟩::rest).length+1=(⟨5,[40],0,q⟩::r:List Tk).length+rest.length+1 by simp only [List.length_append,List.length_cons];omega,hr,PR.bind_ok,hself];exact congrArg (fun z=>PR.ok z _) hxe.symm
theorem at_11(hf:PartF x) (hx:okX x) (H:∀ k,k<n→SpA k) (h:TkX (f+1) x t) (hn:t.length≤n+1) (hk:x.k=11):atomP (psN n).ar (psN n).po (t++rest)=.ok x rest:=by
 obtain⟨a,hab⟩:=len1 (subs_len hf (m:=1) (by simp [subsX,hk]));have ha:okX a:=hx.sub (by rw [hab];simp);have hs:=hf.low (by omega);have hself:ofB x.s.data.toList=x.s:=ofB_self _
 obtain⟨am,hm⟩:∃ m,x.arms=[m]:=by
  have h:=hf.a11 hk
  match hl:x.arms,h with
  | [m],_=>exact⟨m,rfl⟩
 have hxe:=exEq hk (hf.n0 (by omega) (by omega) (by omega)) rfl (hf.op0 (by omega) (by omega)) hm hab;have hoa:=armOk_of (hf.arms am (by rw [hm];simp));have hsa:ofB am.data.toList=am:=ofB_self _;simp only [TkX,pcX,pcK,hk,hab,hm,mkP,wdP,List.map_cons,List.map_nil] at h;obtain⟨p0,_,rfl,ta,_,rfl,hta,p1,_,rfl,h⟩:=h;obtain⟨z,_,rfl,hz,h,hw⟩:=on_read hs hoa h;obtain⟨p2,_,rfl,rfl⟩:=h;simp only [List.length_cons,List.length_append,List.length_nil] at hn;have h1:=tk_pos ha hta;obtain⟨m,rfl⟩:∃ m,n=m+1:=⟨n-1,by omega⟩;simp only [List.cons_append,List.append_assoc,List.nil_append];obtain⟨d,hd,hsp⟩:=H m (by omega) a f ta (⟨1,whenL,0,p1⟩::(z++⟨5,[41],0,p2⟩::rest)) ha hta (by omega) ⟨rfl,rfl⟩;have hun:=tk_noUn ha hta (⟨1,whenL,0,p1⟩::(z++⟨5,[41],0,p2⟩::rest));obtain⟨z0,r0,rfl,_⟩:=tk_head f a ta ha hta;rw [List.cons_append] at hun hsp ⊢;refine in_un (q:=p2) ?_ _;rw [hxe];rw [un_post hun];unfold postP
 have hlen:d+2≤(z0::(r0++⟨1,whenL,0,p1⟩::(z++⟨5,[41],0,p2⟩::rest))).length:=by
  simp only [List.length_cons,List.length_append] at hd ⊢;omega
 generalize hG:(z0::(r0++⟨1,whenL,0,p1⟩::(z++⟨5,[41],0,p2⟩::rest))).length+1=G at *;obtain⟨g,rfl⟩:∃ g,G=g+1+d:=⟨G-1-d,by omega⟩;rw [hsp (g+1)];unfold tailP;rw [show isP [91] (⟨1,whenL,0,p1⟩::(z++⟨5,[41],0,p2⟩::rest))=false from rfl,if_neg (by simp),wd_isP,if_pos rfl,List.tail_cons,hw,PR.bind_ok,hself]
 show tailP (psN m).ar g (Ex.mk 11 0 x.s 0 [ofB am.data.toList] [a]) _=_
 rw [hsa];exact tail_stopB _ _ _ (show 1≤levT 5 [41] by decide)
end
theorem atom_all{n:Nat}(H:∀ k,k<n→SpA k) (R:∀ k,k≤n→RdZ k) (x:Ex) (f:Nat) (t rest:List Tk) (hx:okX x) (h:TkX (f+1) x t) (hn:t.length≤n+1) (hc:cln rest) (h15:x.k≠15):atomP (psN n).ar (psN n).po (t++rest)=.ok x rest:=by
 have hf:=hx.part;have h1:=hf.k1;have h17:=hf.k17;obtain hk | hk | hk | hk | hk | hk | hk | hk | hk | hk | hk | hk | hk | hk | hk | hk:x.k=1∨x.k=2∨x.k=3∨x.k=4∨x.k=5∨x.k=6∨x.k=7∨x.k=8∨x.k=9∨x.k=10∨x.k=11∨x.k=12∨x.k=13∨x.k=14∨x.k=16∨x.k=17:=by omega
 · exact at_leaf hf h hc (by omega)
 · exact at_leaf hf h hc (by omega)
 · exact at_leaf hf h hc (by omega)
 · exact at_leaf hf h hc (by omega)
 · exact at_5 hf hx R h hn hk
 · exact at_6 hf hx R h hn hk
 · exact at_7 hf hx R h hn hk
 · exact at_8 hf hx R h hn hk
 · exact at_9 hf hx R h hn hk
 · exact at_10 hf hx R h hn hk
 · exact at_11 hf hx H h hn hk
 · exact at_12 hf hx R h hn hk
 · exact at_13 hf hx R h hn hc hk
 · exact at_14 hf hx (R n (Nat.le_refl _)) h hn hk
 · exact at_16 hf hx (R n (Nat.le_refl _)) h hn hk
 · exact at_leaf hf h hc (by omega)
theorem spA:∀ n,SpA n:=by
 intro n
 induction n using Nat.strongRecOn with
 | _ n H=>
  have R:∀ k,k≤n→RdZ k:=fun k hk=>rd_of k fun m hm=>H m (by omega);intro y f
  induction f generalizing y with
  | zero=>intro t rest _ h;exact h.elim
  | succ f ih=>
   intro t rest hy h hn hc
   by_cases h15:y.k=15
   · have hf:=hy.part;obtain⟨a,b,hab⟩:=len2 (subs_len hf (m:=2) (by simp [subsX,h15]));have ha:okX a:=hy.sub (by rw [hab];simp);have hb:okX b:=hy.sub (by rw [hab];simp);have hxe:=exEq h15 (hf.n0 (by omega) (by omega) (by omega)) (hf.s0 (by omega) (by omega) (by omega) (by omega) (by omega) (by omega)) (hf.op0 (by omega) (by omega)) (hf.a0 (by omega) (by omega)) hab;simp only [TkX,pcX,pcK,h15,hab,mkP] at h;obtain⟨ta,_,rfl,hta,p1,_,rfl,tb,_,rfl,htb,p2,_,rfl,rfl⟩:=h;simp only [List.length_cons,List.length_append,List.length_nil] at hn;have h1:=tk_pos ha hta;simp only [List.cons_append,List.append_assoc,List.nil_append];obtain⟨m,hm,hg⟩:=ih a ta (⟨5,[91],0,p1⟩::(tb++⟨5,[93],0,p2⟩::rest)) ha hta (by omega) ⟨rfl,rfl⟩;have e1:=(R n (Nat.le_refl _)).ar b f tb (⟨5,[93],0,p2⟩::rest) hb htb (by omega) ⟨rfl,rfl⟩ (show 8≤levT 5 [93] by decide);refine⟨m+1,by simp only [List.length_append,List.length_cons];omega,fun g=>?_⟩;rw [show g+(m+1)=g+1+m by omega,hg (g+1)]
     conv=>lhs;unfold tailP
     rw [mk_isP,if_pos rfl,List.tail_cons,e1,PR.bind_ok,need_mk,PR.bind_ok,hxe]
   · refine⟨0,Nat.zero_le _,fun g=>?_⟩;rw [atom_all (fun k hk=>H k hk) R y f t rest hy h hn hc h15,PR.bind_ok];rfl
theorem tk_back{x:Ex}{f n:Nat}{t rest:List Tk}(hx:okX x) (h:TkX f x t) (hn:t.length≤n+1) (hc:cln rest) (hl:8≤levL rest):arrowP (psN n) (t++rest)=.ok x rest:=
 (rd_of (n+1) fun m _=>spA m).ar x f t rest hx h hn hc hl
end
section
def bytesP:Pc→List UInt8
 | .tk k s n=>if k=4 then 39::(s++[39]) else s
 | .sub x=>textL x
 | .sp=>[32]
def bytesPs:List Pc→List UInt8
 | []=>[]
 | p::ps=>bytesP p++bytesPs ps
theorem bytes_app:∀ p q:List Pc,bytesPs (p++q)=bytesPs p++bytesPs q
 | [],q=>rfl
 | a::p,q=>by simp only [List.cons_append,bytesPs,bytes_app p q,List.append_assoc]
def LexT(T:Ex→List Tk→Prop) (l:List UInt8) (ps:List Pc) (u:List UInt8):Prop:=
 ∀ a,∃ ts,lexL a (l++u)=(ts++(lexL (a+l.length) u).1,(lexL (a+l.length) u).2)∧TkP T ps ts
section
variable {T:Ex→List Tk→Prop}
theorem LexT.nil_(u:List UInt8):LexT T [] [] u:=fun a=>⟨[],by simp,rfl⟩
theorem LexT.app{l1 l2 u:List UInt8}{p q:List Pc}(h1:LexT T l1 p (l2++u)) (h2:LexT T l2 q u):LexT T (l1++l2) (p++q) u:=fun a=>by
 obtain⟨t1,e1,k1⟩:=h1 a;obtain⟨t2,e2,k2⟩:=h2 (a+l1.length);refine⟨t1++t2,?_,(TkP_app _ _ _ _).2 ⟨t1,t2,rfl,k1,k2⟩⟩;rw [List.append_assoc,e1,e2,List.length_append,← Nat.add_assoc,List.append_assoc]
theorem LexT.cons_{p:Pc}{ps:List Pc}{u:List UInt8}(h1:LexT T (bytesP p) [p] (bytesPs ps++u)) (h2:LexT T (bytesPs ps) ps u):LexT T (bytesPs (p::ps)) (p::ps) u:=h1.app h2
theorem LexT.two{p q:List Pc}{u:List UInt8}(h1:LexT T (bytesPs p) p (bytesPs q++u)) (h2:LexT T (bytesPs q) q u):LexT T (bytesPs (p++q)) (p++q) u:=by
 rw [bytes_app];exact h1.app h2
theorem LexT.one{l u:List UInt8}{k n:Int}{s:List UInt8}(hb:blankN (l++u)=0) (ht:tokL (l++u)=some (⟨k,s,n,0⟩,l.length)):LexT T l [.tk k s n] u:=fun a=>by
 refine⟨[⟨k,s,n,a⟩],?_,a,[],rfl,rfl⟩;rw [lex_tok hb ht,List.drop_left];rfl
theorem LexT.sp(u:List UInt8):LexT T [32] [.sp] u:=fun a=>by
 refine⟨[],?_,rfl⟩
 have hb:blankN ([32]++u)=1:=by
  show blankN (32::u)=1
  unfold blankN;rw [if_neg (by simp)];rfl
 rw [lex_blank (by omega),hb];rfl
theorem LexT.sub{x:Ex}{u:List UInt8}(h:∀ a,∃ ts,lexL a (textL x++u)=(ts++(lexL (a+(textL x).length) u).1,(lexL (a+(textL x).length) u).2)∧T x ts):LexT T (textL x) [.sub x] u:=fun a=>by
 obtain⟨ts,e,k⟩:=h a;exact⟨ts,e,ts,[],by simp,k,rfl⟩
theorem blank_noB{c:UInt8}{l:List UInt8}(h:c≠45) (hs:spaceB c=false):blankN (c::l)=0:=by
 unfold blankN;rw [if_neg (by simp [Ne.symm h])]
 simp [hs]
theorem LexT.mark{m u:List UInt8}(hm:m≠[]) (hb:blankN (m++u)=0) (h1:letB ((m.headD 0).toNat:Int)=false) (h2:digitB ((m.headD 0).toNat:Int)=false) (h3:m.headD 0≠39) (h:markL (m++u)=some m):LexT T m [.tk 5 m 0] u:=by
 refine LexT.one hb ?_
 cases m with
 | nil=>exact absurd rfl hm
 | cons c m=>
  simp only [List.headD_cons] at h1 h2 h3;rw [List.cons_append,tok_cons,h1,if_neg (by simp),h2,if_neg (by simp),if_neg h3,← List.cons_append];unfold markT;rw [h];rfl
theorem lex_40(u:List UInt8):LexT T (bytesP (mkP [40])) [mkP [40]] u:=LexT.mark (by decide) (blank_noB (by decide) (by decide)) (by decide) (by decide) (by decide) rfl
theorem lex_41(u:List UInt8):LexT T (bytesP (mkP [41])) [mkP [41]] u:=LexT.mark (by decide) (blank_noB (by decide) (by decide)) (by decide) (by decide) (by decide) rfl
theorem lex_91(u:List UInt8):LexT T (bytesP (mkP [91])) [mkP [91]] u:=LexT.mark (by decide) (blank_noB (by decide) (by decide)) (by decide) (by decide) (by decide) rfl
theorem lex_93(u:List UInt8):LexT T (bytesP (mkP [93])) [mkP [93]] u:=LexT.mark (by decide) (blank_noB (by decide) (by decide)) (by decide) (by decide) (by decide) rfl
theorem lex_44(u:List UInt8):LexT T (bytesP (mkP [44])) [mkP [44]] u:=LexT.mark (by decide) (blank_noB (by decide) (by decide)) (by decide) (by decide) (by decide) rfl
theorem lex_61(u:List UInt8):LexT T (bytesP (mkP [61])) [mkP [61]] u:=LexT.mark (by decide) (blank_noB (by decide) (by decide)) (by decide) (by decide) (by decide) rfl
theorem lex_arr(u:List UInt8):LexT T (bytesP (mkP arrL)) [mkP arrL] u:=LexT.mark (by decide) (by show blankN (45::62::u)=0;rfl) (by decide) (by decide) (by decide) rfl
theorem lex_neg{c:UInt8}{u:List UInt8}(h1:c≠45) (h2:c≠62):LexT T (bytesP (mkP [45])) [mkP [45]] (c::u):=by
 refine LexT.mark (by decide) ?_ (by decide) (by decide) (by decide) ?_
 · show blankN (45::c::u)=0
   unfold blankN;rw [if_neg (by simp [Ne.symm h1])];rfl
 · show markL (45::c::u)=some [45]
   unfold markL marksL;have e:((62:UInt8)==c)=false:=by simpa using Ne.symm h2
   simp [List.find?,List.isPrefixOf,e]
theorem lex_sign(op:Int) (h1:3≤op) (h2:op≤16) (h:¬ (7≤op∧op≤10)) (u:List UInt8):LexT T (signL op) [mkP (signL op)] (32::u):=by
 obtain rfl | rfl | rfl | rfl | rfl | rfl | rfl | rfl | rfl | rfl:op=3∨op=4∨op=5∨op=6∨op=11∨op=12∨op=13∨op=14∨op=15∨op=16:=by omega
 all_goals exact LexT.mark (by decide) rfl (by decide) (by decide) (by decide) rfl
theorem let_blank{c:UInt8}{l:List UInt8}(h:letB (c.toNat:Int)=true):blankN (c::l)=0:=by
 have h1:c≠45:=fun e=>by subst e;revert h;decide
 refine blank_noB h1 ?_;have h2:c≠9:=fun e=>by subst e;revert h;decide
 have h3:c≠10:=fun e=>by subst e;revert h;decide
 have h4:c≠13:=fun e=>by subst e;revert h;decide
 have h5:c≠32:=fun e=>by subst e;revert h;decide
 simp [spaceB,h2,h3,h4,h5]
theorem word_facts:∀ w∈wordsL,(nmsB w && (match w with | []=>false | c::_=>smallB (c.toNat:Int)))=true:=by decide
theorem word_ex{s:List UInt8}(h:wordB s=true):nmsB s=true∧∃ c r,s=c::r∧smallB (c.toNat:Int)=true:=by
 have h1:=word_facts s (by simpa [wordB] using h);rw [Bool.and_eq_true] at h1;refine⟨h1.1,?_⟩
 cases s with
 | nil=>simp at h1
 | cons c r=>exact⟨c,r,rfl,h1.2⟩
theorem name_app{s u:List UInt8}(h:nmsB s=true) (hu:noNm u):nameL (s++u)=s:=nm_app h hu
theorem lex_low{s u:List UInt8}(h:lowB s=true∨wordB s=true) (hu:noNm u):LexT T s [wdP s] u:=by
 have hn:nmsB s=true:=by rcases h with h | h;exact low_nms h;exact(word_ex h).1
 obtain⟨c,r,hs,hc⟩:∃ c r,s=c::r∧smallB (c.toNat:Int)=true:=by rcases h with h | h;exact low_ex h;exact(word_ex h).2
 have hl:letB (c.toNat:Int)=true:=by simp [letB,hc]
 have he:=name_app hn hu;have ho:(lowB s || wordB s)=true:=by rcases h with h | h <;> simp [h]
 refine LexT.one ?_ ?_
 · rw [hs];exact let_blank hl
 · have:tokL (s++u)=nameT (s++u):=by
    rw [hs,List.cons_append,tok_cons,hl,if_pos rfl]
   rw [this];unfold nameT;rw [he,ho,if_pos rfl]
theorem great_small{c:UInt8}(h:greatB (c.toNat:Int)=true):smallB (c.toNat:Int)=false:=by
 simp only [greatB,decide_eq_true_eq] at h;simp only [smallB,decide_eq_false_iff_not];omega
theorem lex_high{s u:List UInt8}(h:highB s=true) (hu:noNm u):LexT T s [.tk 2 s 0] u:=by
 obtain⟨c,r,hs,hc⟩:=high_ex h;have hl:letB (c.toNat:Int)=true:=by simp [letB,hc]
 have he:=name_app (high_nms h) hu;have hsm:=great_small hc
 have h1:lowB s=false:=by
  cases hb:lowB s with
  | false=>rfl
  | true=>
   obtain⟨c',r',e,hc'⟩:=low_ex hb;rw [hs] at e;injection e with e1 e2;rw [← e1,hsm] at hc'
   cases hc'
 have h2:wordB s=false:=by
  cases hb:wordB s with
  | false=>rfl
  | true=>
   obtain⟨c',r',e,hc'⟩:=(word_ex hb).2;rw [hs] at e;injection e with e1 e2;rw [← e1,hsm] at hc'
   cases hc'
 refine LexT.one ?_ ?_
 · rw [hs];exact let_blank hl
 · have:tokL (s++u)=nameT (s++u):=by
    rw [hs,List.cons_append,tok_cons,hl,if_pos rfl]
   rw [this];unfold nameT;rw [he,h1,h2,h];rfl
theorem head_appL{a:List UInt8}(h:a≠[]) (b:List UInt8):(a++b).head?=a.head?:=by
 cases a with
 | nil=>exact absurd rfl h
 | cons c l=>rfl
theorem dec_head(u:Nat) (h:1≤u):(Lib.decDigits u).head?≠some 48:=by
 induction u using Nat.strongRecOn with
 | ind u ih=>
  by_cases h9:u<10
  · rw [Lib.decDigits_one h9];intro e;simp only [List.head?_cons,Option.some.injEq] at e;have:=congrArg UInt8.toNat e;rw [digNat h9] at this
    simp at this
    omega
  · rw [Lib.decDigits,dif_neg h9,head_appL (decNe _)];exact ih (u / 10) (by omega) (by omega)
theorem dig_blank{c:UInt8}{l:List UInt8}(h:digitB (c.toNat:Int)=true):blankN (c::l)=0:=by
 have h1:c≠45:=fun e=>by subst e;revert h;decide
 refine blank_noB h1 ?_;have h2:c≠9:=fun e=>by subst e;revert h;decide
 have h3:c≠10:=fun e=>by subst e;revert h;decide
 have h4:c≠13:=fun e=>by subst e;revert h;decide
 have h5:c≠32:=fun e=>by subst e;revert h;decide
 simp [spaceB,h2,h3,h4,h5]
theorem lex_num{n:Int}{u:List UInt8}(h0:0≤n) (h1:n≤9223372036854775807) (hu:noNm u):LexT T (Lib.itoa n) [.tk 3 (Lib.itoa n) n] u:=by
 have he:Lib.itoa n=Lib.decDigits n.toNat:=by simp [Lib.itoa,Int.not_lt.2 h0]
 rw [he];have hr:=decRange n.toNat;have hne:=decNe n.toNat;have hdg:digL (Lib.decDigits n.toNat++u)=Lib.decDigits n.toNat:=dg_app hr hu;have hv:decV (Lib.decDigits n.toNat)=n.toNat:=dvalDec n.toNat
 have hh:¬ (1<(Lib.decDigits n.toNat).length∧(Lib.decDigits n.toNat++u).head?=some 48):=by
  rintro ⟨h2,h3⟩;rw [head_appL hne] at h3;rcases Nat.eq_zero_or_pos n.toNat with hz | hz
  · rw [hz,Lib.decDigits_one (by omega)] at h2
    simp at h2
  · exact dec_head _ hz h3
 have hnn:((n.toNat:Nat):Int)=n:=by omega
 generalize hd:Lib.decDigits n.toNat=d at *
 cases d with
 | nil=>exact absurd rfl hne
 | cons c l=>
  have hc:=hr c (by simp)
  have hlc:letB (c.toNat:Int)=false:=by
   simp only [digitB,decide_eq_true_eq] at hc;simp only [letB,smallB,greatB,Bool.or_eq_false_iff,decide_eq_false_iff_not];omega
  refine LexT.one (dig_blank hc) ?_;rw [List.cons_append,tok_cons,hlc,if_neg (by simp),hc,if_pos rfl,← List.cons_append];unfold numT
  rw [hdg,hv,if_neg (by
   rintro (h | h)
   · exact hh h
   · omega),hnn]
theorem lex_path{s u:List UInt8}(h:pathB s=true):LexT T (bytesP (.tk 4 s 0)) [.tk 4 s 0] u:=by
 have hq:quotL (s++39::u)=s:=twApp (p:=fun c=>c != 39) (path_quote h) (.inr ⟨39,u,rfl,by decide⟩);refine LexT.one ?_ ?_
 · exact blank_noB (by decide) (by decide)
 · show tokL (39::(s++[39]++u))=_
   rw [tok_cons,if_neg (by decide),if_neg (by decide),if_pos rfl];rw [show s++[39]++u=s++39::u by simp];unfold pathT;rw [hq,if_pos ⟨by simp,h⟩]
   simp [bytesP]
theorem lex_arm{a u:List UInt8}(h:armOk a) (hu:noNm u):LexT T (bytesP (armPc a)) [armPc a] u:=by
 unfold armPc
 by_cases h1:a=trueL∨a=falseL
 · rw [if_pos h1];exact lex_low (.inr (by rcases h1 with rfl | rfl <;> decide)) hu
 · rw [if_neg h1];exact lex_high (by rcases h with h | h | h;exact h;exact absurd (.inl h) h1;exact absurd (.inr h) h1) hu
theorem n32(u:List UInt8):noNm (32::u):=noNm_cons _ (by decide)
theorem n40(u:List UInt8):noNm (40::u):=noNm_cons _ (by decide)
theorem n41(u:List UInt8):noNm (41::u):=noNm_cons _ (by decide)
theorem lex_on{s m:List UInt8}{u:List UInt8}(hs:lowB s=true) (hm:armOk m):LexT T (bytesPs (onPc s m)) (onPc s m) (41::u):=by
 unfold onPc
 by_cases h1:m=trueL
 · rw [if_pos h1];exact LexT.cons_ (lex_low (.inl hs) (n41 _)) (LexT.nil_ _)
 rw [if_neg h1]
 by_cases h2:m=falseL
 · rw [if_pos h2];exact LexT.cons_ (lex_low (.inr (by decide)) (n32 _)) (LexT.cons_ (LexT.sp _) (LexT.cons_ (lex_low (.inl hs) (n41 _)) (LexT.nil_ _)))
 rw [if_neg h2];have hh:highB m=true:=by rcases hm with h | h | h;exact h;exact absurd h h1;exact absurd h h2
 exact LexT.cons_ (lex_high hh (n40 _)) (LexT.cons_ (lex_40 _) (LexT.cons_ (lex_low (.inl hs) (n41 _)) (LexT.cons_ (lex_41 _) (LexT.nil_ _))))
end
end
end Go.Proofs.YtokiaaapgkdpmaaGreatDoor
