/- Parts of the proof: PaK. Conditions: each theorem's own. -/
import Derived.Test.YtokiaaapgkdpmaaGreatDoorV10
namespace Go.Proofs.YtokiaaapgkdpmaaGreatDoor
set_option linter.unusedVariables false
set_option linter.unusedSimpArgs false
set_option maxRecDepth 100000
set_option maxHeartbeats 40000000
section
theorem text_first:∀ {x:Ex},okX x→∃ c r,textL x=c::r∧c≠45∧c≠62:=by
 refine fun {x}=>size_ind (P:=fun x=>okX x→∃ c r,textL x=c::r∧c≠45∧c≠62) (fun x ih hx=>?_) x;have hf:=hx.part;have h1:=hf.k1;have h17:=hf.k17;rw [textL_eq];have h40:∀ r:List UInt8,∃ c r',(40:UInt8)::r=c::r'∧c≠45∧c≠62:=fun r=>⟨40,r,rfl,by decide,by decide⟩
 have hlow:∀ (s r:List UInt8),lowB s=true→∃ c r',s++r=c::r'∧c≠45∧c≠62:=fun s r h=>by
  obtain⟨c,q,rfl,hc⟩:=low_ex h;exact⟨c,q++r,rfl,fun e=>by subst e;revert hc;decide,fun e=>by subst e;revert hc;decide⟩
 by_cases h15:x.k=15
 · obtain⟨a,b,hab⟩:=len2 (subs_len hf (m:=2) (by simp [subsX,h15]));have ha:=ih 0 (by rw [hab];simp) (hx.sub (by simp [subX,hab]));rw [show subX x 0=a by simp [subX,hab]] at ha;obtain⟨c,r,e,k⟩:=ha;exact⟨c,r++91::(textL b++[93]),by simp [textK,h15,hab,gT,e],k⟩
 generalize ht:x.subs.map textL=t;unfold textK
 by_cases h5:x.k=5
 · rw [if_pos h5];split <;> exact h40 _
 rw [if_neg h5]
 by_cases h6:x.k=6
 · rw [if_pos h6];exact h40 _
 rw [if_neg h6]
 by_cases h7:x.k=7
 · rw [if_pos h7];exact h40 _
 rw [if_neg h7]
 by_cases h8:x.k=8
 · rw [if_pos h8];exact h40 _
 rw [if_neg h8]
 by_cases h9:x.k=9
 · rw [if_pos h9];exact h40 _
 rw [if_neg h9]
 by_cases h10:x.k=10
 · rw [if_pos h10];exact h40 _
 rw [if_neg h10]
 by_cases h11:x.k=11
 · rw [if_pos h11];exact h40 _
 rw [if_neg h11]
 by_cases h12:x.k=12
 · rw [if_pos h12];exact h40 _
 rw [if_neg h12]
 by_cases h13:x.k=13
 · rw [if_pos h13];unfold callT
   split
   · exact h40 _
   · exact hlow _ _ (hf.low (by omega))
 rw [if_neg h13]
 by_cases h14:x.k=14
 · rw [if_pos h14];exact⟨91,_,rfl,by decide,by decide⟩
 rw [if_neg h14,if_neg h15]
 by_cases h16:x.k=16
 · rw [if_pos h16];exact h40 _
 rw [if_neg h16];unfold leafT
 by_cases hk1:x.k=1
 · rw [if_pos hk1];have he:Lib.itoa x.n=Lib.decDigits x.n.toNat:=by simp [Lib.itoa,Int.not_lt.2 (hf.n1 hk1)]
   rw [he];have hr:=decRange x.n.toNat;have hne:=decNe x.n.toNat;generalize Lib.decDigits x.n.toNat=d at *
   cases d with
   | nil=>exact absurd rfl hne
   | cons c l=>
    have hc:=hr c (by simp);exact⟨c,l,rfl,fun e=>by subst e;revert hc;decide,fun e=>by subst e;revert hc;decide⟩
 rw [if_neg hk1]
 by_cases hk2:x.k=2
 · rw [if_pos hk2]
   split
   · exact⟨116,_,rfl,by decide,by decide⟩
   · exact⟨102,_,rfl,by decide,by decide⟩
 rw [if_neg hk2]
 by_cases hk17:x.k=17
 · rw [if_pos hk17];exact⟨39,_,rfl,by decide,by decide⟩
 rw [if_neg hk17]
 by_cases hk4:x.k=4
 · obtain⟨c,q,e,hc⟩:=high_ex (hf.high hk4);exact⟨c,q,e,fun e=>by subst e;revert hc;decide,fun e=>by subst e;revert hc;decide⟩
 · have:=hlow x.s.data.toList [] (hf.low (by omega));rwa [List.append_nil] at this
theorem bytes_comma:∀ l:List Ex,bytesPs (commaPc l)=joinC (l.map textL)
 | []=>rfl
 | [x]=>by simp [commaPc,bytesPs,bytesP,joinC]
 | x::y::l=>by
  have:=bytes_comma (y::l);simp only [List.map_cons] at this
  simp [commaPc,bytesPs,bytesP,mkP,joinC,this]
theorem bytes_armPc(a:List UInt8):bytesP (armPc a)=a:=by
 unfold armPc
 split <;> rfl
theorem bytes_merge:∀ (am:List (List UInt8)) (l:List Ex),bytesPs (mergePc am l)=armsT am (l.map textL)
 | [],l=>by simp [mergePc,bytesPs,armsT]
 | _::_,[]=>by simp [mergePc,bytesPs,armsT]
 | a::am,x::l=>by
  have:=bytes_merge am l
  simp [mergePc,bytesPs,bytesP,mkP,armsT,this]
  exact bytes_armPc a
theorem bytes_on(s m:List UInt8):bytesPs (onPc s m)=onL s m:=by
 unfold onPc onL
 split
 · simp [bytesPs,bytesP,wdP]
 · split <;> simp [bytesPs,bytesP,wdP,mkP]
theorem bytes_sign(op:Int):bytesP (signPc op)=signL op:=by
 unfold signPc
 split <;> rfl
theorem bytes_text{x:Ex}(hf:PartF x):bytesPs (pcX x)=textL x:=by
 have h1:=hf.k1;have h17:=hf.k17;rw [textL_eq];unfold pcX
 by_cases h5:x.k=5
 · obtain⟨a,hab⟩:=len1 (subs_len hf (m:=1) (by simp [subsX,h5]));rcases hf.op5 h5 with ho | ho <;> simp [pcK,textK,h5,ho,hab,bytesPs,bytesP,mkP,wdP,gX,gT]
 by_cases h6:x.k=6
 · obtain⟨a,b,hab⟩:=len2 (subs_len hf (m:=2) (by simp [subsX,h6]))
   simp [pcK,textK,h6,hab,bytesPs,bytesP,mkP,wdP,gX,gT]
   exact bytes_sign x.op
 by_cases h7:x.k=7
 · obtain⟨a,b,c,hab⟩:=len3 (subs_len hf (m:=3) (by simp [subsX,h7]))
   simp [pcK,textK,h7,hab,bytesPs,bytesP,mkP,wdP,gX,gT]
 by_cases h8:x.k=8
 · obtain⟨a,b,hab⟩:=len2 (subs_len hf (m:=2) (by simp [subsX,h8]))
   simp [pcK,textK,h8,hab,bytesPs,bytesP,mkP,wdP,gX,gT]
 by_cases h9:x.k=9
 · obtain⟨a,b,hab⟩:=len2 (subs_len hf (m:=2) (by simp [subsX,h9]))
   simp [pcK,textK,h9,hab,bytesPs,bytesP,mkP,wdP,gX,gT]
 by_cases h10:x.k=10
 · obtain⟨a,hab⟩:=len1 (subs_len hf (m:=1) (by simp [subsX,h10]))
   simp [pcK,textK,h10,hab,bytesPs,bytesP,mkP,wdP,gX,gT]
 by_cases h11:x.k=11
 · obtain⟨a,hab⟩:=len1 (subs_len hf (m:=1) (by simp [subsX,h11]))
   simp [pcK,textK,h11,hab,bytesPs,bytes_app,bytes_on,bytesP,mkP,wdP,gX,gT]
 by_cases h12:x.k=12
 · simp [pcK,textK,h12,bytesPs,bytes_app,bytes_merge,bytesP,mkP,wdP]
 by_cases h13:x.k=13
 · by_cases hn:x.n=1
   · have hg:textL (gX x.subs (x.subs.length-1))=gT (x.subs.map textL) (x.subs.length-1):=by
      have h:=hf.lo;rw [show subsX x=(x.n,6+x.n) by simp [subsX,h13],hn] at h;simp only at h;have:x.subs.length-1<x.subs.length:=by omega
      simp [gX,gT,List.getElem?_eq_getElem this]
     simp [pcK,textK,h13,hn,callPc,callT,bytesPs,bytes_app,bytes_comma,bytesP,mkP,wdP,hg]
   · simp [pcK,textK,h13,hn,callPc,callT,bytesPs,bytes_app,bytes_comma,bytesP,mkP,wdP]
 by_cases h14:x.k=14
 · simp [pcK,textK,h14,bytesPs,bytes_app,bytes_comma,bytesP,mkP,wdP]
 by_cases h15:x.k=15
 · obtain⟨a,b,hab⟩:=len2 (subs_len hf (m:=2) (by simp [subsX,h15]))
   simp [pcK,textK,h15,hab,bytesPs,bytesP,mkP,wdP,gX,gT]
 by_cases h16:x.k=16
 · obtain⟨a,b,c,hab⟩:=len3 (subs_len hf (m:=3) (by simp [subsX,h16]))
   simp [pcK,textK,h16,hab,bytesPs,bytesP,mkP,wdP,gX,gT]
 by_cases hk1:x.k=1
 · simp [pcK,textK,hk1,leafPc,leafT,bytesPs,bytesP,mkP,wdP]
 by_cases hk2:x.k=2
 · by_cases hn:x.n=1 <;> simp [pcK,textK,hk2,hn,leafPc,leafT,bytesPs,bytesP,mkP,wdP]
 by_cases hk4:x.k=4
 · simp [pcK,textK,hk4,leafPc,leafT,bytesPs,bytesP,mkP,wdP]
 by_cases hk17:x.k=17
 · simp [pcK,textK,hk17,leafPc,leafT,bytesPs,bytesP,mkP,wdP]
 have hk3:x.k=3:=by omega
 simp [pcK,textK,hk3,leafPc,leafT,bytesPs,bytesP,mkP,wdP]
theorem c32(ps:List Pc) (u:List UInt8):clean (bytesPs (.sp::ps)++u):=.inr ⟨32,bytesPs ps++u,rfl,by simp⟩
theorem c41(ps:List Pc) (u:List UInt8):clean (bytesPs (mkP [41]::ps)++u):=.inr ⟨41,bytesPs ps++u,rfl,by simp⟩
theorem c44(ps:List Pc) (u:List UInt8):clean (bytesPs (mkP [44]::ps)++u):=.inr ⟨44,bytesPs ps++u,rfl,by simp⟩
theorem c91(ps:List Pc) (u:List UInt8):clean (bytesPs (mkP [91]::ps)++u):=.inr ⟨91,bytesPs ps++u,rfl,by simp⟩
theorem c93(ps:List Pc) (u:List UInt8):clean (bytesPs (mkP [93]::ps)++u):=.inr ⟨93,bytesPs ps++u,rfl,by simp⟩
theorem m40(ps:List Pc) (u:List UInt8):noNm (bytesPs (mkP [40]::ps)++u):=n40 _
section
variable {T:Ex→List Tk→Prop}
def SubL(T:Ex→List Tk→Prop) (l:List Ex):Prop:=∀ y∈l,∀ u,clean u→LexT T (textL y) [.sub y] u
theorem wd_ok{s:List UInt8}(h:wordB s=true){u:List UInt8}(hu:clean u):LexT T (bytesP (wdP s)) [wdP s] u:=lex_low (.inr h) hu.noNm
theorem lex_comma:∀ l:List Ex,SubL T l→∀ u,clean u→LexT T (bytesPs (commaPc l)) (commaPc l) u
 | [],_,u,_=>LexT.nil_ u
 | [x],H,u,hu=>LexT.cons_ (H x (by simp) _ hu) (LexT.nil_ u)
 | x::y::l,H,u,hu=>LexT.cons_ (H x (by simp) _ (c44 _ _)) (LexT.cons_ (lex_44 _) (LexT.cons_ (LexT.sp _) (lex_comma (y::l) (fun z hz=>H z (by simp [hz])) u hu)))
theorem merge_next(am:List (List UInt8)) (l:List Ex) (u:List UInt8):clean (bytesPs (mergePc am l++[mkP [41]])++u):=by
 cases am with
 | nil=>exact c41 _ _
 | cons a am=>
  cases l with
  | nil=>exact c41 _ _
  | cons y l=>exact c32 _ _
theorem lex_merge:∀ (am:List (List UInt8)) (l:List Ex),(∀ a∈am,armOk a)→SubL T l→∀ u,LexT T (bytesPs (mergePc am l)) (mergePc am l) u
 | [],l,_,_,u=>LexT.nil_ u
 | _::_,[],_,_,u=>LexT.nil_ u
 | a::am,y::l,ha,H,u=>
  LexT.cons_ (LexT.sp _) (LexT.cons_ (lex_40 _) (LexT.cons_ (lex_arm (ha a (by simp)) (c32 _ _).noNm) (LexT.cons_ (LexT.sp _) (LexT.cons_ (lex_arr _) (LexT.cons_ (LexT.sp _) (LexT.cons_ (H y (by simp) _ (c41 _ _)) (LexT.cons_ (lex_41 _)
   (lex_merge am l (fun b hb=>ha b (by simp [hb])) (fun z hz=>H z (by simp [hz])) u))))))))
theorem lex_kind{x:Ex}(hf:PartF x) (hx:okX x) (hn:x.n≤9223372036854775807) (H:SubL T x.subs) (u:List UInt8) (hu:clean u):LexT T (bytesPs (pcX x)) (pcX x) u:=by
 have h1:=hf.k1;have h17:=hf.k17
 by_cases h5:x.k=5
 · obtain⟨a,hab⟩:=len1 (subs_len hf (m:=1) (by simp [subsX,h5]));have Ha:=H a (by rw [hab];simp);rcases hf.op5 h5 with ho | ho
   · rw [show pcX x=[mkP [40],mkP [45],.sub a,mkP [41]] by simp [pcX,pcK,h5,ho,hab,gX]];refine LexT.cons_ (lex_40 _) (LexT.cons_ ?_ (LexT.cons_ (Ha _ (c41 _ _)) (LexT.cons_ (lex_41 _) (LexT.nil_ _))));obtain⟨c,r,e,h45,h62⟩:=text_first (hx.sub (show a∈x.subs by rw [hab];simp));rw [show bytesPs [.sub a,mkP [41]]++u=c::(r++(bytesPs [mkP [41]]++u)) by simp [bytesPs,bytesP,e]];exact lex_neg h45 h62
   · rw [show pcX x=[mkP [40],wdP notL,.sp,.sub a,mkP [41]] by simp [pcX,pcK,h5,ho,hab,gX]];exact LexT.cons_ (lex_40 _) (LexT.cons_ (wd_ok (by decide) (c32 _ _)) (LexT.cons_ (LexT.sp _) (LexT.cons_ (Ha _ (c41 _ _)) (LexT.cons_ (lex_41 _) (LexT.nil_ _)))))
 by_cases h6:x.k=6
 · obtain⟨a,b,hab⟩:=len2 (subs_len hf (m:=2) (by simp [subsX,h6]));have Ha:=H a (by rw [hab];simp);have Hb:=H b (by rw [hab];simp);obtain⟨ho1,ho2⟩:=hf.op6 h6;rw [show pcX x=[mkP [40],.sub a,.sp,signPc x.op,.sp,.sub b,mkP [41]] by simp [pcX,pcK,h6,hab,gX]];refine LexT.cons_ (lex_40 _) (LexT.cons_ (Ha _ (c32 _ _)) (LexT.cons_ (LexT.sp _) (LexT.cons_ ?_ (LexT.cons_ (LexT.sp _) (LexT.cons_ (Hb _ (c41 _ _)) (LexT.cons_ (lex_41 _) (LexT.nil_ _)))))));unfold signPc
   by_cases hw:7≤x.op∧x.op≤10
   · rw [if_pos hw];refine wd_ok ?_ (c32 _ _);generalize x.op=op at *;obtain rfl | rfl | rfl | rfl:op=7∨op=8∨op=9∨op=10:=by omega
     all_goals decide
   · rw [if_neg hw];exact lex_sign x.op ho1 ho2 hw _
 by_cases h7:x.k=7
 · obtain⟨a,b,c,hab⟩:=len3 (subs_len hf (m:=3) (by simp [subsX,h7]));have Ha:=H a (by rw [hab];simp);have Hb:=H b (by rw [hab];simp);have Hc:=H c (by rw [hab];simp);rw [show pcX x=[mkP [40],wdP ifL,.sp,.sub a,.sp,wdP thenL,.sp,.sub b,.sp,wdP elseL,.sp,.sub c,mkP [41]] by simp [pcX,pcK,h7,hab,gX]];exact LexT.cons_ (lex_40 _) (LexT.cons_ (wd_ok (by decide) (c32 _ _)) (LexT.cons_ (LexT.sp _) (LexT.cons_ (Ha _ (c32 _ _)) (LexT.cons_ (LexT.sp _) (LexT.cons_ (wd_ok (by decide) (c32 _ _)) (LexT.cons_ (LexT.sp _) (LexT.cons_ (Hb _ (c32 _ _)) (LexT.cons_ (LexT.sp _) (LexT.cons_ (wd_ok (by decide) (c32 _ _)) (LexT.cons_ (LexT.sp _) (LexT.cons_ (Hc _ (c41 _ _)) (LexT.cons_ (lex_41 _) (LexT.nil_ _)))))))))))))
 by_cases h8:x.k=8
 · obtain⟨a,b,hab⟩:=len2 (subs_len hf (m:=2) (by simp [subsX,h8]));have Ha:=H a (by rw [hab];simp);have Hb:=H b (by rw [hab];simp);rw [show pcX x=[mkP [40],.sub a,.sp,wdP fbyL,.sp,.sub b,mkP [41]] by simp [pcX,pcK,h8,hab,gX]];exact LexT.cons_ (lex_40 _) (LexT.cons_ (Ha _ (c32 _ _)) (LexT.cons_ (LexT.sp _) (LexT.cons_ (wd_ok (by decide) (c32 _ _)) (LexT.cons_ (LexT.sp _) (LexT.cons_ (Hb _ (c41 _ _)) (LexT.cons_ (lex_41 _) (LexT.nil_ _)))))))
 by_cases h9:x.k=9
 · obtain⟨a,b,hab⟩:=len2 (subs_len hf (m:=2) (by simp [subsX,h9]));have Ha:=H a (by rw [hab];simp);have Hb:=H b (by rw [hab];simp);rw [show pcX x=[mkP [40],.sub a,.sp,mkP arrL,.sp,.sub b,mkP [41]] by simp [pcX,pcK,h9,hab,gX]];exact LexT.cons_ (lex_40 _) (LexT.cons_ (Ha _ (c32 _ _)) (LexT.cons_ (LexT.sp _) (LexT.cons_ (lex_arr _) (LexT.cons_ (LexT.sp _) (LexT.cons_ (Hb _ (c41 _ _)) (LexT.cons_ (lex_41 _) (LexT.nil_ _)))))))
 by_cases h10:x.k=10
 · obtain⟨a,hab⟩:=len1 (subs_len hf (m:=1) (by simp [subsX,h10]));have Ha:=H a (by rw [hab];simp);rw [show pcX x=[mkP [40],wdP preL,.sp,.sub a,mkP [41]] by simp [pcX,pcK,h10,hab,gX]];exact LexT.cons_ (lex_40 _) (LexT.cons_ (wd_ok (by decide) (c32 _ _)) (LexT.cons_ (LexT.sp _) (LexT.cons_ (Ha _ (c41 _ _)) (LexT.cons_ (lex_41 _) (LexT.nil_ _)))))
 by_cases h11:x.k=11
 · obtain⟨a,hab⟩:=len1 (subs_len hf (m:=1) (by simp [subsX,h11]));have Ha:=H a (by rw [hab];simp)
   obtain⟨am,hm⟩:∃ m,x.arms=[m]:=by
    have h:=hf.a11 h11
    match hl:x.arms,h with
    | [m],_=>exact⟨m,rfl⟩
   have hoa:=armOk_of (hf.arms am (by rw [hm];simp));rw [show pcX x=mkP [40]::.sub a::.sp::wdP whenL::.sp::(onPc x.s.data.toList am.data.toList++[mkP [41]]) by simp [pcX,pcK,h11,hab,hm,gX,gT]];exact LexT.cons_ (lex_40 _) (LexT.cons_ (Ha _ (c32 _ _)) (LexT.cons_ (LexT.sp _) (LexT.cons_ (wd_ok (by decide) (c32 _ _)) (LexT.cons_ (LexT.sp _) (LexT.two (lex_on (hf.low (by omega)) hoa) (LexT.cons_ (lex_41 _) (LexT.nil_ _)))))))
 by_cases h12:x.k=12
 · rw [show pcX x=mkP [40]::wdP mergeL::.sp::wdP x.s.data.toList::(mergePc (x.arms.map fun a=>a.data.toList) x.subs++[mkP [41]]) by simp [pcX,pcK,h12]]
   exact LexT.cons_ (lex_40 _) (LexT.cons_ (wd_ok (by decide) (c32 _ _)) (LexT.cons_ (LexT.sp _) (LexT.cons_ (lex_low (.inl (hf.low (by omega))) (merge_next _ _ _).noNm) (LexT.two (lex_merge _ _ (fun a ha=>by
    obtain⟨b,hb,rfl⟩:=List.mem_map.1 ha;exact armOk_of (hf.arms b hb)) H _) (LexT.cons_ (lex_41 _) (LexT.nil_ _))))))
 by_cases h13:x.k=13
 · have hs:=hf.low (show x.k=3∨x.k=11∨x.k=12∨x.k=13 by omega)
   by_cases hn1:x.n=1
   · have hlen:1≤x.subs.length:=by
      have h:=hf.lo;rw [show subsX x=(x.n,6+x.n) by simp [subsX,h13],hn1] at h;simp only at h;omega
     have hg:gX x.subs (x.subs.length-1)∈x.subs:=by
      unfold gX;rw [List.getElem?_eq_getElem (by omega)];exact List.getElem_mem _
     rw [show pcX x=mkP [40]::wdP x.s.data.toList::mkP [40]::(commaPc (x.subs.take (x.subs.length-1))++mkP [41]::.sp::wdP everyL::.sp::.sub (gX x.subs (x.subs.length-1))::[mkP [41]]) by simp [pcX,pcK,h13,hn1,callPc]];exact LexT.cons_ (lex_40 _) (LexT.cons_ (lex_low (.inl hs) (m40 _ _)) (LexT.cons_ (lex_40 _) (LexT.two (lex_comma _ (fun y hy=>H y (List.mem_of_mem_take hy)) _ (c41 _ _)) (LexT.cons_ (lex_41 _) (LexT.cons_ (LexT.sp _) (LexT.cons_ (wd_ok (by decide) (c32 _ _)) (LexT.cons_ (LexT.sp _) (LexT.cons_ (H _ hg _ (c41 _ _)) (LexT.cons_ (lex_41 _) (LexT.nil_ _))))))))))
   · rw [show pcX x=wdP x.s.data.toList::mkP [40]::(commaPc x.subs++[mkP [41]]) by simp [pcX,pcK,h13,hn1,callPc]];exact LexT.cons_ (lex_low (.inl hs) (m40 _ _)) (LexT.cons_ (lex_40 _) (LexT.two (lex_comma _ H _ (c41 _ _)) (LexT.cons_ (lex_41 _) (LexT.nil_ _))))
 by_cases h14:x.k=14
 · rw [show pcX x=mkP [91]::(commaPc x.subs++[mkP [93]]) by simp [pcX,pcK,h14]];exact LexT.cons_ (lex_91 _) (LexT.two (lex_comma _ H _ (c93 _ _)) (LexT.cons_ (lex_93 _) (LexT.nil_ _)))
 by_cases h15:x.k=15
 · obtain⟨a,b,hab⟩:=len2 (subs_len hf (m:=2) (by simp [subsX,h15]));have Ha:=H a (by rw [hab];simp);have Hb:=H b (by rw [hab];simp);rw [show pcX x=[.sub a,mkP [91],.sub b,mkP [93]] by simp [pcX,pcK,h15,hab,gX]];exact LexT.cons_ (Ha _ (c91 _ _)) (LexT.cons_ (lex_91 _) (LexT.cons_ (Hb _ (c93 _ _)) (LexT.cons_ (lex_93 _) (LexT.nil_ _))))
 by_cases h16:x.k=16
 · obtain⟨a,b,c,hab⟩:=len3 (subs_len hf (m:=3) (by simp [subsX,h16]));have Ha:=H a (by rw [hab];simp);have Hb:=H b (by rw [hab];simp);have Hc:=H c (by rw [hab];simp);rw [show pcX x=[mkP [40],.sub a,.sp,wdP withL,.sp,mkP [91],.sub b,mkP [93],.sp,mkP [61],.sp,.sub c,mkP [41]] by simp [pcX,pcK,h16,hab,gX]];exact LexT.cons_ (lex_40 _) (LexT.cons_ (Ha _ (c32 _ _)) (LexT.cons_ (LexT.sp _) (LexT.cons_ (wd_ok (by decide) (c32 _ _)) (LexT.cons_ (LexT.sp _) (LexT.cons_ (lex_91 _) (LexT.cons_ (Hb _ (c93 _ _)) (LexT.cons_ (lex_93 _) (LexT.cons_ (LexT.sp _) (LexT.cons_ (lex_61 _) (LexT.cons_ (LexT.sp _) (LexT.cons_ (Hc _ (c41 _ _)) (LexT.cons_ (lex_41 _) (LexT.nil_ _)))))))))))))
 by_cases hk1:x.k=1
 · rw [show pcX x=[.tk 3 (Lib.itoa x.n) x.n] by simp [pcX,pcK,hk1,leafPc]];exact LexT.cons_ (lex_num (hf.n1 hk1) hn hu.noNm) (LexT.nil_ _)
 by_cases hk2:x.k=2
 · rw [show pcX x=[wdP (if x.n=1 then trueL else falseL)] by simp [pcX,pcK,hk2,leafPc]];exact LexT.cons_ (wd_ok (by split <;> decide) hu) (LexT.nil_ _)
 by_cases hk4:x.k=4
 · rw [show pcX x=[.tk 2 x.s.data.toList 0] by simp [pcX,pcK,hk4,leafPc]];exact LexT.cons_ (lex_high (hf.high hk4) hu.noNm) (LexT.nil_ _)
 by_cases hk17:x.k=17
 · rw [show pcX x=[.tk 4 x.s.data.toList 0] by simp [pcX,pcK,hk17,leafPc]];exact LexT.cons_ (lex_path (hf.path hk17)) (LexT.nil_ _)
 have hk3:x.k=3:=by omega
 rw [show pcX x=[wdP x.s.data.toList] by simp [pcX,pcK,hk3,leafPc]];exact LexT.cons_ (lex_low (.inl (hf.low (.inl hk3))) hu.noNm) (LexT.nil_ _)
end
theorem lex_text:∀ (f:Nat) (x:Ex),okX x→(∀ p∈partsX x,NumP p)→sizeX x≤f→∀ u,clean u→∀ a,∃ ts,lexL a (textL x++u)=(ts++(lexL (a+(textL x).length) u).1,(lexL (a+(textL x).length) u).2)∧TkX f x ts
 | 0,x,_,_,hs,_,_,_=>by have:=size_pos x;omega
 | f+1,x,hx,hp,hs,u,hu,a=>by
  have hf:=hx.part;have hself:=hp x (by rw [partsX_eq];exact List.mem_cons_self);have hsz:=sizeX_eq x;have H:SubL (TkX f) x.subs:=fun y hy v hv=>LexT.sub fun b=>lex_text f y (hx.sub hy) (fun p hp'=>hp p (by rw [partsX_eq];exact List.mem_cons_of_mem _ (parts_of_mem hy hp'))) (by have:=sizes_mem hy;omega) v hv b;obtain⟨ts,e,k⟩:=lex_kind hf hx hself.2.2 H u hu a;rw [bytes_text hf] at e;exact⟨ts,e,k⟩
theorem text_back{x:Ex}(hx:okX x) (hp:∀ p∈partsX x,NumP p):∃ ts,lexL 0 (textL x)=(ts,none)∧ts≠[]∧∀ n p,ts.length≤n+1→arrowP (psN n) (ts++[⟨6,[],0,p⟩])=.ok x [⟨6,[],0,p⟩]:=by
 obtain⟨ts,e,k⟩:=lex_text (sizeX x) x hx hp (Nat.le_refl _) [] (.inl rfl) 0;rw [List.append_nil,lex_nil,List.append_nil] at e;have h1:=tk_pos hx k;exact⟨ts,e,fun h=>by subst h;simp at h1,fun n p hn=>tk_back hx k hn ⟨rfl,rfl⟩ (show 8≤levT 6 [] by decide)⟩
end
end Go.Proofs.YtokiaaapgkdpmaaGreatDoor
