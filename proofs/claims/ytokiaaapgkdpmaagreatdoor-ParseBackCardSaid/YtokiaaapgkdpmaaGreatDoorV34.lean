/- Parts of the proof: PrN, PrO. Conditions: each theorem's own. -/
import Derived.Test.YtokiaaapgkdpmaaGreatDoorV23
namespace Go.Proofs.YtokiaaapgkdpmaaGreatDoor
set_option linter.unusedVariables false
set_option linter.unusedSimpArgs false
set_option maxRecDepth 100000
set_option maxHeartbeats 40000000
section
section
variable {m:Nat}{fs:List Fr}{ps:List Ex}{sz:Nat}{r:List Tk}{res:PR (List Ex × Nat)→Prop}
theorem reads_m{l:Lv}{new:List Fr}{g:Psr}(h:∀ ps sz r,stepF (.m l) ps sz r=.ok (new,ps,sz) r) (H:RdsM new g m):RdsM [.m l] g m:=
 fun fs ps sz r res hr hm hok hbad=>endM_next (h ps sz r) (H fs ps sz r res hr hm hok hbad)
theorem ends_sign{s:List UInt8}(hr:EndR r) (hok:∀ r1,needP s r=.ok () r1→EndR r1→r1.length<r.length→EndM fs ps sz r1 res) (hbad:∀ r1,needP s r=.bad r1→res (.bad r1)):EndM (.sign s::fs) ps sz r res:=by
 cases hn:needP s r with
 | ok u r1=>
  have h1:=need_end hr hn;exact endM_next (new:=[]) (ps2:=ps) (sz2:=sz) (r2:=r1) (by simp [stepF,hn]) (hok r1 hn h1.1 (by omega))
 | bad q=>exact endM_step (by simp only [stepF,hn,PR.bind_bad];exact hbad q hn)
theorem ends_one{lv:Lv}{g:Psr}(H:RdsM [.m lv] g m) (x0:Ex) (hr:EndR r) (hm:r.length≤m)
 (hok:∀ y r2,g r=.ok y r2→EndR r2→r2.length<r.length→∀ x1 sz1,sz1=sz+1+sizeX y→(sz1≤60→x1=withSubs x0 [y])→EndM fs (ps++[x1]) sz1 r2 res)
 (hbad:∀ r2,g r=.bad r2→res (.bad r2)):EndM (.m lv::.made x0 ps.length::fs) ps sz r res:=by
 refine H (.made x0 ps.length::fs) ps sz r res hr hm ?_ hbad;intro y r2 hy hr2 hlt y1 sz1 hsz hY;refine endM_made (hok y r2 hy hr2 hlt _ _ (by omega) fun h=>?_);rw [if_pos h,hY (by omega)]
theorem reads_un{P:Ps}(HU:RdsM [.m .un] P.un m) (HPO:RdsM [.m .post] (postP P.ar P.po) (m+1)):RdsM [.m .un] (unP P) (m+1):=by
 intro fs ps sz r res hr hm hok hbad
 by_cases h1:isP [45] r=true
 · have he:=isP_end hr h1;refine endM_next (new:=[.m .un,.made (mkOp 5 1) ps.length]) (ps2:=ps) (sz2:=sz) (r2:=r.tail) (by simp [stepF,lvO,unO,opsUn,signP,h1]) ?_;refine ends_one HU (mkOp 5 1) he.1 (by omega) ?_ ?_
   · intro y r2 hy hr2 hlt x1 sz1 hsz hX;exact hok (Ex.mk 5 0 ByteArray.empty 1 [] [y]) r2 (by simp only [unP,h1,if_true,hy,PR.bind_ok]) hr2 (by omega) x1 sz1 (by rw [sizeX_mk,sizes_one];omega) hX
   · intro r2 hy;exact hbad r2 (by simp only [unP,h1,if_true,hy,PR.bind_bad])
 · by_cases h2:isP notL r=true
   · have he:=isP_end hr h2;refine endM_next (new:=[.m .un,.made (mkOp 5 2) ps.length]) (ps2:=ps) (sz2:=sz) (r2:=r.tail) (by simp [stepF,lvO,unO,opsUn,signP,h1,h2]) ?_;refine ends_one HU (mkOp 5 2) he.1 (by omega) ?_ ?_
     · intro y r2 hy hr2 hlt x1 sz1 hsz hX;exact hok (Ex.mk 5 0 ByteArray.empty 2 [] [y]) r2 (by simp only [unP,h1,h2,if_true,if_false,hy,PR.bind_ok,Bool.false_eq_true]) hr2 (by omega) x1 sz1 (by rw [sizeX_mk,sizes_one];omega) hX
     · intro r2 hy;exact hbad r2 (by simp only [unP,h1,h2,if_true,if_false,hy,PR.bind_bad,Bool.false_eq_true])
   · by_cases h3:isP preL r=true
     · have he:=isP_end hr h3;refine endM_next (new:=[.m .un,.made (mk0 10) ps.length]) (ps2:=ps) (sz2:=sz) (r2:=r.tail) (by simp [stepF,lvO,unO,opsUn,signP,h1,h2,h3]) ?_;refine ends_one HU (mk0 10) he.1 (by omega) ?_ ?_
       · intro y r2 hy hr2 hlt x1 sz1 hsz hX;exact hok (Ex.mk 10 0 ByteArray.empty 0 [] [y]) r2 (by simp only [unP,h1,h2,h3,if_true,if_false,hy,PR.bind_ok,Bool.false_eq_true]) hr2 (by omega) x1 sz1 (by rw [sizeX_mk,sizes_one];omega) hX
       · intro r2 hy;exact hbad r2 (by simp only [unP,h1,h2,h3,if_true,if_false,hy,PR.bind_bad,Bool.false_eq_true])
     · have hu:unP P r=postP P.ar P.po r:=by simp only [unP,h1,h2,h3,if_false,Bool.false_eq_true]
       refine endM_next (new:=[.m .post]) (ps2:=ps) (sz2:=sz) (r2:=r) (by simp [stepF,lvO,unO,opsUn,signP,h1,h2,h3]) ?_;exact HPO fs ps sz r res hr hm (fun x r1 hx=>hok x r1 (hu.trans hx)) fun r1 hx=>hbad r1 (hu.trans hx)
theorem ends_behind{ar:Psr}(HA:RdsM [.m .arrow] ar m):∀ (f:Nat) (fs:List Fr) (ps:List Ex) (sz:Nat) (e e1:Ex) (r:List Tk) (res:PR (List Ex × Nat)→Prop),EndR r→r.length<f→r.length≤m+1 →
 (sz≤60→e1=e) →
 (∀ x r1,tailP ar f e r=.ok x r1→EndR r1→r1.length≤r.length→∀ x1 sz1,sz1+sizeX e=sz+sizeX x→sz≤sz1→(sz1≤60→x1=x)→EndM fs (ps++[x1]) sz1 r1 res) →
 (∀ r1,tailP ar f e r=.bad r1→res (.bad r1))→EndM (.m .behind::fs) (ps++[e1]) sz r res
 | 0,fs,ps,sz,e,e1,r,res,hr,hf,hm,hE,hok,hbad=>absurd hf (by omega)
 | f+1,fs,ps,sz,e,e1,r,res,hr,hf,hm,hE,hok,hbad=>by
  by_cases h1:isP [91] r=true
  · have he:=isP_end hr h1;refine endM_next (new:=[.m .arrow,.sign [93],.made (mk0 15) ps.length,.m .behind]) (ps2:=ps++[e1]) (sz2:=sz) (r2:=r.tail) (by simp [stepF,lvO,behindO,h1]) ?_;refine HA (.sign [93]::.made (mk0 15) ps.length::.m .behind::fs) (ps++[e1]) sz r.tail res he.1 (by omega) ?_ ?_
    · intro y r2 hy hr2 hlt2 y1 sz2 hsz2 hY;refine ends_sign hr2 ?_ ?_
      · intro r3 hn hr3 hlt3;rw [List.append_assoc];refine endM_made ?_;refine ends_behind HA f fs ps (sz2+1) (Ex.mk 15 0 ByteArray.empty 0 [] [e,y]) _ r3 res hr3 (by omega) (by omega) (fun h=>?_) ?_ ?_
        · rw [if_pos h,hE (by omega),hY (by omega)];rfl
        · intro x r4 hx hr4 hle x1 sz3 hsz3 hs hX;refine hok x r4 (by simp only [tailP,h1,if_true,hy,PR.bind_ok,hn,hx]) hr4 (by omega) x1 sz3 ?_ (by omega) hX;rw [sizeX_mk,sizes_two] at hsz3;omega
        · intro r4 hx;exact hbad r4 (by simp only [tailP,h1,if_true,hy,PR.bind_ok,hn,hx])
      · intro r3 hn;exact hbad r3 (by simp only [tailP,h1,if_true,hy,PR.bind_ok,hn,PR.bind_bad])
    · intro r2 hy;exact hbad r2 (by simp only [tailP,h1,if_true,hy,PR.bind_bad])
  · by_cases h2:isP whenL r=true
    · have he:=isP_end hr h2
      cases hw:whenP r.tail with
      | ok z r2=>
       have hz:=when_end he.1 hw;refine endM_next (new:=[.made (whenE z) ps.length,.m .behind]) (ps2:=ps++[e1]) (sz2:=sz) (r2:=r2) (by simp [stepF,lvO,behindO,h1,h2,hw]) ?_;refine endM_made ?_;refine ends_behind HA f fs ps (sz+1) (Ex.mk 11 0 (ofB z.1) 0 [ofB z.2] [e]) _ r2 res hz.1 (by omega) (by omega) (fun h=>?_) ?_ ?_
       · rw [if_pos h,hE (by omega)];rfl
       · intro x r4 hx hr4 hle x1 sz3 hsz3 hs hX;refine hok x r4 (by simp only [tailP,h1,h2,if_true,if_false,hw,PR.bind_ok,hx,Bool.false_eq_true]) hr4 (by omega) x1 sz3 ?_ (by omega) hX;rw [sizeX_mk,sizes_one] at hsz3;omega
       · intro r4 hx;exact hbad r4 (by simp only [tailP,h1,h2,if_true,if_false,hw,PR.bind_ok,hx,Bool.false_eq_true])
      | bad q=>
       refine endM_step ?_;simp only [stepF,lvO,behindO,h1,h2,if_true,if_false,hw,PR.bind_bad,Bool.false_eq_true];exact hbad q (by simp only [tailP,h1,h2,if_true,if_false,hw,PR.bind_bad,Bool.false_eq_true])
    · refine endM_next (new:=[]) (ps2:=ps++[e1]) (sz2:=sz) (r2:=r) (by simp [stepF,lvO,behindO,h1,h2]) ?_;exact hok e r (by simp only [tailP,h1,h2,if_false,Bool.false_eq_true]) hr (Nat.le_refl _) e1 sz rfl (Nat.le_refl _) hE
theorem reads_post{ar po:Psr}(HA:RdsM [.m .arrow] ar m) (HT:RdsM [.m .atom] (atomP ar po) (m+1)):RdsM [.m .post] (postP ar po) (m+1):=by
 refine reads_m (new:=[.m .atom,.m .behind]) (fun ps sz r=>rfl) ?_;intro fs ps sz r res hr hm hok hbad;refine HT (.m .behind::fs) ps sz r res hr hm ?_ ?_
 · intro e r1 he hr1 hlt e1 sz1 hsz hE;refine ends_behind HA (r.length+1) fs ps sz1 e e1 r1 res hr1 (by omega) (by omega) hE ?_ ?_
   · intro x r2 hx hr2 hle x1 sz2 hsz2 hs hX;exact hok x r2 (by simp only [postP,he,PR.bind_ok,hx]) hr2 (by omega) x1 sz2 (by omega) hX
   · intro r2 hx;exact hbad r2 (by simp only [postP,he,PR.bind_ok,hx])
 · intro r1 he;exact hbad r1 (by simp only [postP,he,PR.bind_bad])
theorem ends_list{ar:Psr}(HA:RdsM [.m .arrow] ar m) (shut:List UInt8) (ev:Bool) (x0:Ex):∀ (f:Nat) (fs:List Fr) (ps:List Ex) (sz:Nat) (acc acc1:List Ex) (r:List Tk) (res:PR (List Ex × Nat)→Prop),EndR r→r.length≤f→r.length≤m →
 (sz≤60→acc1=acc) →
 (∀ l r1,moreP ar f acc r=.ok l r1→EndR r1→r1.length≤r.length→∀ l1 sz1,sz1+sizesX acc=sz+sizesX l→sz≤sz1→(sz1≤60→l1=l)→EndO ((needP shut r1).bind fun _ r=>thenO ev x0 ps.length (ps++l1) sz1 r) fs res) →
 (∀ r1,moreP ar f acc r=.bad r1→res (.bad r1))→EndM (.list shut ev x0 ps.length::fs) (ps++acc1) sz r res
 | 0,fs,ps,sz,acc,acc1,r,res,hr,hf,hm,hE,hok,hbad=>by
  obtain⟨t,r',rfl⟩:=hr.cons_
  simp at hf
 | f+1,fs,ps,sz,acc,acc1,r,res,hr,hf,hm,hE,hok,hbad=>by
  by_cases h1:isP [44] r=true
  · have he:=isP_end hr h1;refine endM_next (new:=[.m .arrow,.list shut ev x0 ps.length]) (ps2:=ps++acc1) (sz2:=sz) (r2:=r.tail) (by simp [stepF,h1]) ?_;refine HA (.list shut ev x0 ps.length::fs) (ps++acc1) sz r.tail res he.1 (by omega) ?_ ?_
    · intro y r2 hy hr2 hlt2 y1 sz2 hsz2 hY;rw [List.append_assoc];refine ends_list HA shut ev x0 f fs ps sz2 (acc++[y]) (acc1++[y1]) r2 res hr2 (by omega) (by omega) (fun h=>by rw [hE (by omega),hY h]) ?_ ?_
      · intro l r3 hl hr3 hle l1 sz3 hsz3 hs hL;refine hok l r3 (by simp only [moreP,h1,if_true,hy,PR.bind_ok,hl]) hr3 (by omega) l1 sz3 ?_ (by omega) hL;rw [sizesX_app,sizes_one] at hsz3;omega
      · intro r3 hl;exact hbad r3 (by simp only [moreP,h1,if_true,hy,PR.bind_ok,hl])
    · intro r2 hy;exact hbad r2 (by simp only [moreP,h1,if_true,hy,PR.bind_bad])
  · refine endM_step ?_
    have hs:stepF (.list shut ev x0 ps.length) (ps++acc1) sz r=(needP shut r).bind fun _ r=>thenO ev x0 ps.length (ps++acc1) sz r:=by
     simp only [stepF,h1,if_false,Bool.false_eq_true]
    rw [hs];exact hok acc r (by simp only [moreP,h1,if_false,Bool.false_eq_true]) hr (Nat.le_refl _) acc1 sz rfl (Nat.le_refl _) hE
theorem endO_bind{α:Type}{x:PR α}{cont:α→List Tk→Out}(hok:∀ a r1,x=.ok a r1→EndO (cont a r1) fs res) (hbad:∀ r1,x=.bad r1→res (.bad r1)):EndO (x.bind cont) fs res:=by
 cases hx:x with
 | ok a r1=>exact hok a r1 hx
 | bad q=>exact hbad q hx
theorem ends_every{po:Psr}(HP:RdsM [.m .post] po m) (s:List UInt8){l l1:List Ex}(hr:EndR r) (hm:r.length≤m+1) (hL:sz≤60→l1=l)
 (hok:∀ x r1,everyP po s l r=.ok x r1→EndR r1→r1.length≤r.length→∀ x1 sz1,sz1+sizesX l=sz+sizeX x→(sz1≤60→x1=x)→EndM fs (ps++[x1]) sz1 r1 res)
 (hbad:∀ r1,everyP po s l r=.bad r1→res (.bad r1)):EndO (everyO (.mk 13 0 (ofB s) 0 [] []) ps.length (ps++l1) sz r) fs res:=by
 by_cases h1:isP everyL r=true
 · have he:=isP_end hr h1;simp only [everyO,h1,if_true]
   show EndM (.m .post::.made (.mk 13 1 (ofB s) 0 [] []) ps.length::fs) (ps++l1) sz r.tail res
   refine HP (.made (.mk 13 1 (ofB s) 0 [] []) ps.length::fs) (ps++l1) sz r.tail res he.1 (by omega) ?_ ?_
   · intro y r2 hy hr2 hlt y1 sz2 hsz2 hY;rw [List.append_assoc];refine endM_made (hok (Ex.mk 13 1 (ofB s) 0 [] (l++[y])) r2 (by simp only [everyP,h1,if_true,hy,PR.bind_ok]) hr2 (by omega) _ _ (by rw [sizeX_mk,sizesX_app,sizes_one];omega) fun h=>?_);rw [if_pos h,hL (by omega),hY (by omega)];rfl
   · intro r2 hy;exact hbad r2 (by simp only [everyP,h1,if_true,hy,PR.bind_bad])
 · simp only [everyO,h1,if_false,Bool.false_eq_true]
   show EndM (.made (.mk 13 0 (ofB s) 0 [] []) ps.length::fs) (ps++l1) sz r res
   refine endM_made (hok (Ex.mk 13 0 (ofB s) 0 [] l) r (by simp only [everyP,h1,if_false,Bool.false_eq_true]) hr (Nat.le_refl _) _ _ (by rw [sizeX_mk];omega) fun h=>?_);rw [if_pos h,hL (by omega)];rfl
theorem ends_made{x0 x:Ex}{l l1:List Ex}(hx:withSubs x0 l=x) (hsx:sizeX x=1+sizesX l) (hL:sz≤60→l1=l)
 (hok:∀ x1 sz1,sz1+sizesX l=sz+sizeX x→(sz1≤60→x1=x)→EndM fs (ps++[x1]) sz1 r res):EndO (madeO x0 ps.length (ps++l1) sz r) fs res:=by
 unfold madeO EndO;rw [madeS_app]
 show EndM fs (ps++[if sz+1≤60 then withSubs x0 l1 else x0]) (sz+1) r res
 refine hok _ _ (by omega) fun h=>?_;rw [if_pos h,hL (by omega),hx]
theorem ends_arms{ar:Psr}(HA:RdsM [.m .arrow] ar m) (s:ByteArray):∀ (f:Nat) (fs:List Fr) (ps:List Ex) (sz:Nat) (am:List ByteArray) (l l1:List Ex) (r:List Tk) (res:PR (List Ex × Nat)→Prop),EndR r→r.length<f→r.length≤m+1 →
 (sz≤60→l1=l) →
 (∀ z r1,armsP ar f am l r=.ok z r1→EndR r1→r1.length<r.length→∀ l2 sz2,sz2+sizesX l=sz+sizesX z.2→sz≤sz2→(sz2≤60→l2=z.2)→EndO (madeO (.mk 12 0 s 0 z.1 []) ps.length (ps++l2) sz2 r1) fs res) →
 (∀ r1,armsP ar f am l r=.bad r1→res (.bad r1))→EndO (armO1 (.mk 12 0 s 0 am []) ps.length (ps++l1) sz r) fs res
 | 0,fs,ps,sz,am,l,l1,r,res,hr,hf,hm,hE,hok,hbad=>absurd hf (by omega)
 | f+1,fs,ps,sz,am,l,l1,r,res,hr,hf,hm,hE,hok,hbad=>by
  refine endO_bind ?_ ?_
  · intro a r1 ha;have h1:=arm_end hr ha;refine endO_bind ?_ ?_
    · intro u r2 hn;have h2:=need_end h1.1 hn
      show EndM (.m .arrow::.sign [41]::.more (.mk 12 0 s 0 (am++[ofB a]) []) ps.length::fs) (ps++l1) sz r2 res
      refine HA (.sign [41]::.more (.mk 12 0 s 0 (am++[ofB a]) []) ps.length::fs) (ps++l1) sz r2 res h2.1 (by omega) ?_ ?_
      · intro y r3 hy hr3 hlt3 y1 sz3 hsz3 hY;refine ends_sign hr3 ?_ ?_
        · intro r4 hn4 hr4 hlt4;rw [List.append_assoc];refine endM_step ?_
          by_cases h40:isP [40] r4=true
          · have h5:=isP_end hr4 h40
            have hs:stepF (.more (.mk 12 0 s 0 (am++[ofB a]) []) ps.length) (ps++(l1++[y1])) sz3 r4=armO1 (.mk 12 0 s 0 (am++[ofB a]) []) ps.length (ps++(l1++[y1])) sz3 r4.tail:=by
             simp only [stepF,h40,if_true,armO,needP,PR.bind_ok]
            rw [hs]
            have he:armsP ar (f+1) am l r=armsP ar f (am++[ofB a]) (l++[y]) r4.tail:=by
             simp only [armsP,ha,PR.bind_ok,hn,hy,hn4,h40,if_true]
            refine ends_arms HA s f fs ps sz3 (am++[ofB a]) (l++[y]) (l1++[y1]) r4.tail res h5.1 (by omega) (by omega) (fun h=>by rw [hE (by omega),hY h]) ?_ ?_
            · intro z r6 hz hr6 hlt6 l2 sz6 hsz6 hs6 hL6;refine hok z r6 (he.trans hz) hr6 (by omega) l2 sz6 ?_ (by omega) hL6;rw [sizesX_app,sizes_one] at hsz6;omega
            · intro r6 hz;exact hbad r6 (he.trans hz)
          · have hs:stepF (.more (.mk 12 0 s 0 (am++[ofB a]) []) ps.length) (ps++(l1++[y1])) sz3 r4=madeO (.mk 12 0 s 0 (am++[ofB a]) []) ps.length (ps++(l1++[y1])) sz3 r4:=by
             simp only [stepF,h40,if_false,Bool.false_eq_true]
            rw [hs];refine hok (am++[ofB a],l++[y]) r4 (by simp only [armsP,ha,PR.bind_ok,hn,hy,hn4,h40,if_false,Bool.false_eq_true]) hr4 (by omega) _ sz3 ?_ (by omega) fun h=>by rw [hE (by omega),hY h]
            rw [sizesX_app,sizes_one];omega
        · intro r4 hn4;exact hbad r4 (by simp only [armsP,ha,PR.bind_ok,hn,hy,hn4,PR.bind_bad])
      · intro r3 hy;exact hbad r3 (by simp only [armsP,ha,PR.bind_ok,hn,hy,PR.bind_bad])
    · intro r2 hn;exact hbad r2 (by simp only [armsP,ha,PR.bind_ok,hn,PR.bind_bad])
  · intro r1 ha;exact hbad r1 (by simp only [armsP,ha,PR.bind_bad])
end
end
section
section
variable {m:Nat}{fs:List Fr}{ps:List Ex}{sz:Nat}{r:List Tk}{res:PR (List Ex × Nat)→Prop}
theorem isP_other{s s':List UInt8}(h:isP s r=true) (hne:(s==s')=false):isP s' r=false:=by
 obtain⟨t,r',rfl,hs,hk⟩:=isP_cons h;simp only [isP,hs,hne,Bool.false_and]
theorem plain_no{s:List UInt8}(h:isP s r=true) (h1:s≠trueL) (h2:s≠falseL):plainP r=none:=by
 obtain⟨t,r',rfl,hs,hk⟩:=isP_cons h;subst hs;simp only [plainP];rw [if_neg (by omega),if_neg (by omega),if_neg (by omega),if_neg (fun h=>h1 h.2),if_neg (fun h=>h2 h.2)]
theorem plain_name(h:isNameP r=true):plainP r=none:=by
 match r,h with
 | t::r',h=>
  simp only [isNameP,Bool.and_eq_true,beq_iff_eq,Bool.not_eq_true'] at h;simp only [plainP];rw [if_neg (by omega),if_neg (by omega),if_neg (by omega),if_neg (fun k=>by rw [k.2] at h;exact absurd h.2 (by decide)),if_neg (fun k=>by rw [k.2] at h;exact absurd h.2 (by decide))]
theorem isName_yes(h:isNameP r=true):∃ s r1,nameP r=.ok s r1:=by
 match r,h with
 | t::r',h=>
  simp only [isNameP,Bool.and_eq_true,beq_iff_eq,Bool.not_eq_true'] at h;exact⟨t.s,r',by simp [nameP,h.1,h.2]⟩
theorem isName_no(h:isNameP r=false):nameP r=.bad r:=by
 match r,h with
 | [],h=>rfl
 | t::r',h=>
  simp only [nameP];rw [if_neg];rintro ⟨h1,h2⟩
  simp [isNameP,h1,h2] at h
theorem reads_atom{ar po:Psr}(HA:RdsM [.m .arrow] ar m) (HP:RdsM [.m .post] po m):RdsM [.m .atom] (atomP ar po) (m+1):=by
 intro fs ps sz r res hr hm hok hbad
 by_cases h1:isP [40] r=true
 ·
  have he:=isP_end hr h1
  have hA:atomP ar po r=roundP ar r.tail:=by
   unfold atomP;simp only [plain_no h1 (by decide) (by decide),isP_other h1 (s':=[91]) (by decide),h1,if_true,if_false,Bool.false_eq_true]
  rw [hA] at hok hbad;refine endM_next (new:=[.m .arrow,.m .brk]) (ps2:=ps) (sz2:=sz) (r2:=r.tail) (by simp [stepF,lvO,atomO,h1]) ?_;refine HA (.m .brk::fs) ps sz r.tail res he.1 (by omega) ?_ ?_
  · intro e r1 hE hr1 hlt e1 sz1 hsz hX
    by_cases hw:isP withL r1=true
    · have hw1:=isP_end hr1 hw;refine endM_next (new:=[.sign [91],.m .arrow,.sign [93],.sign [61],.m .arrow,.made (mk0 16) ps.length,.sign [41]]) (ps2:=ps++[e1]) (sz2:=sz1) (r2:=r1.tail) (by simp [stepF,lvO,brkO,hw]) ?_;refine ends_sign hw1.1 ?_ ?_
      · intro r2 hn2 hr2 hlt2;refine HA (.sign [93]::.sign [61]::.m .arrow::.made (mk0 16) ps.length::.sign [41]::fs) (ps++[e1]) sz1 r2 res hr2 (by omega) ?_ ?_
        · intro i r3 hI hr3 hlt3 i1 sz3 hsz3 hI1;refine ends_sign hr3 ?_ ?_
          · intro r4 hn4 hr4 hlt4;refine ends_sign hr4 ?_ ?_
            · intro r5 hn5 hr5 hlt5;refine HA (.made (mk0 16) ps.length::.sign [41]::fs) (ps++[e1]++[i1]) sz3 r5 res hr5 (by omega) ?_ ?_
              · intro v r6 hV hr6 hlt6 v1 sz6 hsz6 hV1;rw [List.append_assoc,List.append_assoc];refine endM_made ?_;refine ends_sign hr6 ?_ ?_
                · intro r7 hn7 hr7 hlt7;refine hok (Ex.mk 16 0 ByteArray.empty 0 [] [e,i,v]) r7 (by simp only [roundP,hE,PR.bind_ok,hw,if_true,hn2,hI,hn4,hn5,hV,hn7]) hr7 (by omega) _ _ (by rw [sizeX_mk,sizes_three];omega) fun h=>?_;rw [if_pos h,hX (by omega),hI1 (by omega),hV1 (by omega)];rfl
                · intro r7 hn7;exact hbad r7 (by simp only [roundP,hE,PR.bind_ok,hw,if_true,hn2,hI,hn4,hn5,hV,hn7,PR.bind_bad])
              · intro r6 hV;exact hbad r6 (by simp only [roundP,hE,PR.bind_ok,hw,if_true,hn2,hI,hn4,hn5,hV,PR.bind_bad])
            · intro r5 hn5;exact hbad r5 (by simp only [roundP,hE,PR.bind_ok,hw,if_true,hn2,hI,hn4,hn5,PR.bind_bad])
          · intro r4 hn4;exact hbad r4 (by simp only [roundP,hE,PR.bind_ok,hw,if_true,hn2,hI,hn4,PR.bind_bad])
        · intro r3 hI;exact hbad r3 (by simp only [roundP,hE,PR.bind_ok,hw,if_true,hn2,hI,PR.bind_bad])
      · intro r2 hn2;exact hbad r2 (by simp only [roundP,hE,PR.bind_ok,hw,if_true,hn2,PR.bind_bad])
    · refine endM_next (new:=[.sign [41]]) (ps2:=ps++[e1]) (sz2:=sz1) (r2:=r1) (by simp [stepF,lvO,brkO,hw]) ?_;refine ends_sign hr1 ?_ ?_
      · intro r7 hn7 hr7 hlt7;exact hok e r7 (by simp only [roundP,hE,PR.bind_ok,hw,if_false,Bool.false_eq_true,hn7]) hr7 (by omega) e1 sz1 hsz hX
      · intro r7 hn7;exact hbad r7 (by simp only [roundP,hE,PR.bind_ok,hw,if_false,Bool.false_eq_true,hn7,PR.bind_bad])
  · intro r1 hE;exact hbad r1 (by simp only [roundP,hE,PR.bind_bad])
 · by_cases h2:isP [91] r=true
   ·
    have he:=isP_end hr h2
    have hA:atomP ar po r=(listP ar [93] r.tail).bind fun l r=>.ok (Ex.mk 14 0 ByteArray.empty 0 [] l) r:=by
     unfold atomP;simp only [plain_no h2 (by decide) (by decide),h2,if_true]
    rw [hA] at hok hbad;refine endM_next (new:=[.m .arrow,.list [93] false (mk0 14) ps.length]) (ps2:=ps) (sz2:=sz) (r2:=r.tail) (by simp [stepF,lvO,atomO,h1,h2]) ?_;refine HA (.list [93] false (mk0 14) ps.length::fs) ps sz r.tail res he.1 (by omega) ?_ ?_
    · intro e r1 hE hr1 hlt e1 sz1 hsz hX;refine ends_list HA [93] false (mk0 14) r1.length fs ps sz1 [e] [e1] r1 res hr1 (Nat.le_refl _) (by omega) (fun h=>by rw [hX h]) ?_ ?_
      · intro l r2 hl hr2 hle l1 sz2 hsz2 hs hL;refine endO_bind ?_ ?_
        · intro u r3 hn;have h3:=need_end hr2 hn;refine ends_made (x:=Ex.mk 14 0 ByteArray.empty 0 [] l) rfl (sizeX_mk _ _ _ _ _ _) hL fun x1 sz3 hsz3 hX3=>?_;refine hok _ r3 (by simp only [listP,hE,PR.bind_ok,hl,hn]) h3.1 (by omega) x1 sz3 ?_ hX3;rw [sizes_one] at hsz2;omega
        · intro r3 hn;exact hbad r3 (by simp only [listP,hE,PR.bind_ok,hl,hn,PR.bind_bad])
      · intro r2 hl;exact hbad r2 (by simp only [listP,hE,PR.bind_ok,hl,PR.bind_bad])
    · intro r1 hE;exact hbad r1 (by simp only [listP,hE,PR.bind_bad])
   · by_cases h3:isP ifL r=true
     ·
      have he:=isP_end hr h3
      have hA:atomP ar po r=ifP ar r.tail:=by
       unfold atomP;simp only [plain_no h3 (by decide) (by decide),h1,h2,h3,isP_other h3 (s':=mergeL) (by decide),if_true,if_false,Bool.false_eq_true]
      rw [hA] at hok hbad;refine endM_next (new:=[.m .arrow,.sign thenL,.m .arrow,.sign elseL,.m .arrow,.made (mk0 7) ps.length]) (ps2:=ps) (sz2:=sz) (r2:=r.tail) (by simp [stepF,lvO,atomO,h1,h2,h3]) ?_;refine HA (.sign thenL::.m .arrow::.sign elseL::.m .arrow::.made (mk0 7) ps.length::fs) ps sz r.tail res he.1 (by omega) ?_ ?_
      · intro a r1 hE hr1 hlt a1 sz1 hsz hX;refine ends_sign hr1 ?_ ?_
        · intro r2 hn2 hr2 hlt2;refine HA (.sign elseL::.m .arrow::.made (mk0 7) ps.length::fs) (ps++[a1]) sz1 r2 res hr2 (by omega) ?_ ?_
          · intro b r3 hB hr3 hlt3 b1 sz3 hsz3 hB1;refine ends_sign hr3 ?_ ?_
            · intro r4 hn4 hr4 hlt4;refine HA (.made (mk0 7) ps.length::fs) (ps++[a1]++[b1]) sz3 r4 res hr4 (by omega) ?_ ?_
              · intro c r5 hC hr5 hlt5 c1 sz5 hsz5 hC1;rw [List.append_assoc,List.append_assoc];refine endM_made (hok (Ex.mk 7 0 ByteArray.empty 0 [] [a,b,c]) r5 (by simp only [ifP,hE,PR.bind_ok,hn2,hB,hn4,hC]) hr5 (by omega) _ _ (by rw [sizeX_mk,sizes_three];omega) fun h=>?_);rw [if_pos h,hX (by omega),hB1 (by omega),hC1 (by omega)];rfl
              · intro r5 hC;exact hbad r5 (by simp only [ifP,hE,PR.bind_ok,hn2,hB,hn4,hC,PR.bind_bad])
            · intro r4 hn4;exact hbad r4 (by simp only [ifP,hE,PR.bind_ok,hn2,hB,hn4,PR.bind_bad])
          · intro r3 hB;exact hbad r3 (by simp only [ifP,hE,PR.bind_ok,hn2,hB,PR.bind_bad])
        · intro r2 hn2;exact hbad r2 (by simp only [ifP,hE,PR.bind_ok,hn2,PR.bind_bad])
      · intro r1 hE;exact hbad r1 (by simp only [ifP,hE,PR.bind_bad])
     · by_cases h4:isP mergeL r=true
       ·
        have he:=isP_end hr h4
        have hA:atomP ar po r=mergeP ar r.tail:=by
         unfold atomP;simp only [plain_no h4 (by decide) (by decide),h1,h2,h4,if_true,if_false,Bool.false_eq_true]
        rw [hA] at hok hbad;refine endM_step ?_;have hs:stepF (.m .atom) ps sz r=mergeO ps sz r.tail:=by simp only [stepF,lvO,atomO,h1,h2,h3,h4,if_true,if_false,Bool.false_eq_true]
        rw [hs];refine endO_bind ?_ ?_
        · intro s r1 hn1;have h5:=name_end he.1 hn1;refine endO_bind ?_ ?_
          · intro u r2 hn2;have h6:=need_end h5.1 hn2;have hps:ps=ps++[]:=by simp
            have:=ends_arms HA (ofB s) (r2.length+1) fs ps sz [] [] [] r2 res h6.1 (by omega) (by omega) (fun _=>rfl) ?_ ?_
            · rw [List.append_nil] at this;exact this
            · intro z r3 hz hr3 hlt3 l2 sz2 hsz2 hs2 hL;refine ends_made (x:=Ex.mk 12 0 (ofB s) 0 z.1 z.2) rfl (sizeX_mk _ _ _ _ _ _) hL fun x1 sz3 hsz3 hX3=>?_;refine hok _ r3 (by simp only [mergeP,hn1,PR.bind_ok,hn2,hz]) hr3 (by omega) x1 sz3 ?_ hX3;simp only [sizesX] at hsz2;omega
            · intro r3 hz;exact hbad r3 (by simp only [mergeP,hn1,PR.bind_ok,hn2,hz,PR.bind_bad])
          · intro r2 hn2;exact hbad r2 (by simp only [mergeP,hn1,PR.bind_ok,hn2,PR.bind_bad])
        · intro r1 hn1;exact hbad r1 (by simp only [mergeP,hn1,PR.bind_bad])
       · by_cases h5:isNameP r=true
         ·
          have hA:atomP ar po r=(nameP r).bind fun s r=>if isP [40] r=true then callP ar po s r.tail else .ok (Ex.mk 3 0 (ofB s) 0 [] []) r:=by
           unfold atomP;simp only [plain_name h5,h1,h2,h3,h4,if_false,Bool.false_eq_true]
          rw [hA] at hok hbad;refine endM_step ?_;have hs:stepF (.m .atom) ps sz r=namedO ps sz r:=by simp only [stepF,lvO,atomO,h1,h2,h3,h4,h5,if_true,if_false,Bool.false_eq_true]
          rw [hs];obtain⟨s,r1,hn1⟩:=isName_yes h5;have h6:=name_end hr hn1;simp only [hn1,PR.bind_ok] at hok hbad;simp only [namedO,hn1,PR.bind_ok]
          by_cases h7:isP [40] r1=true
          · have h8:=isP_end h6.1 h7;simp only [h7,if_true] at hok hbad;simp only [h7,if_true,callO]
            by_cases h9:isP [41] r1.tail=true
            · have h10:=isP_end h8.1 h9;simp only [h9,if_true];simp only [callP,h9,if_true] at hok hbad;have:=ends_every HP s (ps:=ps) (fs:=fs) (sz:=sz) (res:=res) (l:=[]) (l1:=[]) h10.1 (by omega) (fun _=>rfl) ?_ hbad
              · rw [List.append_nil] at this;exact this
              · intro x r2 hx hr2 hle x1 sz1 hsz1 hX1;refine hok x r2 hx hr2 (by omega) x1 sz1 ?_ hX1;simp only [sizesX] at hsz1;omega
            · simp only [h9,if_false,Bool.false_eq_true];simp only [callP,h9,if_false,Bool.false_eq_true] at hok hbad
              show EndM (.m .arrow::.list [41] true (.mk 13 0 (ofB s) 0 [] []) ps.length::fs) ps sz r1.tail res
              refine HA (.list [41] true (.mk 13 0 (ofB s) 0 [] []) ps.length::fs) ps sz r1.tail res h8.1 (by omega) ?_ ?_
              · intro e r2 hE hr2 hlt e1 sz1 hsz hX;refine ends_list HA [41] true (.mk 13 0 (ofB s) 0 [] []) r2.length fs ps sz1 [e] [e1] r2 res hr2 (Nat.le_refl _) (by omega) (fun h=>by rw [hX h]) ?_ ?_
                · intro l r3 hl hr3 hle l1 sz2 hsz2 hs hL;refine endO_bind ?_ ?_
                  · intro u r4 hn;have h11:=need_end hr3 hn;have hLE:listP ar [41] r1.tail=.ok l r4:=by simp only [listP,hE,PR.bind_ok,hl,hn]
                    refine ends_every HP s h11.1 (by omega) hL ?_ ?_
                    · intro x r5 hx hr5 hle5 x1 sz5 hsz5 hX5;refine hok x r5 (by simp only [hLE,PR.bind_ok,hx]) hr5 (by omega) x1 sz5 ?_ hX5;rw [sizes_one] at hsz2;omega
                    · intro r5 hx;exact hbad r5 (by simp only [hLE,PR.bind_ok,hx])
                  · intro r4 hn;exact hbad r4 (by simp only [listP,hE,PR.bind_ok,hl,hn,PR.bind_bad])
                · intro r3 hl;exact hbad r3 (by simp only [listP,hE,PR.bind_ok,hl,PR.bind_bad])
              · intro r2 hE;exact hbad r2 (by simp only [listP,hE,PR.bind_bad])
          · simp only [h7,if_false,Bool.false_eq_true] at hok hbad;simp only [h7,if_false,Bool.false_eq_true];have:=ends_made (x0:=Ex.mk 3 0 (ofB s) 0 [] []) (x:=Ex.mk 3 0 (ofB s) 0 [] []) (l:=[]) (l1:=[]) (ps:=ps) (fs:=fs) (sz:=sz) (r:=r1) (res:=res) rfl (sizeX_mk _ _ _ _ _ _) (fun _=>rfl) fun x1 sz1 hsz1 hX1=>?_
            · rw [List.append_nil] at this;exact this
            · refine hok _ r1 rfl h6.1 (by omega) x1 sz1 ?_ hX1;simp only [sizesX] at hsz1;omega
         ·
          refine endM_step ?_;have hs:stepF (.m .atom) ps sz r=singleO ps sz r:=by simp only [stepF,lvO,atomO,h1,h2,h3,h4,h5,if_false,Bool.false_eq_true]
          rw [hs]
          cases hp:plainP r with
          | some z=>
           have hA:atomP ar po r=.ok z.1 z.2:=by
            unfold atomP;rw [hp]
           have h6:=plain_end hr hp;simp only [singleO,hp];have:=ends_made (x0:=z.1) (x:=z.1) (l:=[]) (l1:=[]) (ps:=ps) (fs:=fs) (sz:=sz) (r:=z.2) (res:=res) (by rw [← Ex.eta z.1,h6.2.2.1];rfl) (by rw [h6.2.2.2];rfl) (fun _=>rfl) fun x1 sz1 hsz1 hX1=>?_
           · rw [List.append_nil] at this;exact this
           · refine hok _ z.2 hA h6.1 (by omega) x1 sz1 ?_ hX1;simp only [sizesX] at hsz1;omega
          | none=>
           have hA:atomP ar po r=.bad r:=by
            unfold atomP;simp only [hp,h1,h2,h3,h4,if_false,Bool.false_eq_true,isName_no (by simpa using h5),PR.bind_bad]
           simp only [singleO,hp];exact hbad r hA
end
structure AllRd (P:Ps) (m:Nat):Prop where
 ar:RdsM [.m .arrow] P.ar m
 fb:RdsM [.m .fby] P.fb m
 un:RdsM [.m .un] P.un m
 po:RdsM [.m .post] P.po m
theorem reads_up{P:Ps}{m:Nat}(H:AllRd P m):AllRd ⟨arrowP P,fbyP P,unP P,postP P.ar P.po⟩ (m+1):=by
 have po:=reads_post H.ar (reads_atom H.ar H.po);have un:=reads_un H.un po;have pr:RdsM [.m .prod] (prodP P) (m+1):=reads_m (new:=[.m .un,.left opsProd .un]) (fun _ _ _=>rfl) (reads_left un);have su:RdsM [.m .sum] (sumP P) (m+1):=reads_m (new:=[.m .prod,.left opsSum .prod]) (fun _ _ _=>rfl) (reads_left pr);have cm:RdsM [.m .cmp] (cmpP P) (m+1):=reads_m (new:=[.m .sum,.once opsCmp .sum]) (fun _ _ _=>rfl) (reads_once su);have an:RdsM [.m .and] (andP P) (m+1):=reads_m (new:=[.m .cmp,.left opsAnd .cmp]) (fun _ _ _=>rfl) (reads_left cm);have orr:RdsM [.m .or] (orP P) (m+1):=reads_m (new:=[.m .and,.left opsOr .and]) (fun _ _ _=>rfl) (reads_left an);have fb:RdsM [.m .fby] (fbyP P) (m+1):=reads_m (new:=[.m .or,.right fbyL 8 .fby]) (fun _ _ _=>rfl) (reads_right orr H.fb);have ar:RdsM [.m .arrow] (arrowP P) (m+1):=reads_m (new:=[.m .fby,.right arrL 9 .arrow]) (fun _ _ _=>rfl) (reads_right fb H.ar);exact⟨ar,fb,un,po⟩
theorem reads_zero{new:List Fr}{g:Psr}:RdsM new g 0:=by
 intro fs ps sz r res hr hm;obtain⟨t,r',rfl⟩:=hr.cons_
 simp at hm
theorem reads_all:∀ n,AllRd (psN n) n
 | 0=>⟨reads_zero,reads_zero,reads_zero,reads_zero⟩
 | n+1=>reads_up (reads_all n)
theorem machine_ends{n:Nat}{r:List Tk}(hr:EndR r) (hn:r.length≤n):EndM [.m .arrow] [] 0 r fun res=>match (psN n).ar r with
 | .ok x r1=>∃ x1,res=.ok ([x1],sizeX x) r1∧EndR r1∧r1.length<r.length∧(sizeX x≤60→x1=x)
 | .bad r1=>res=.bad r1:=by
 refine(reads_all n).ar [] [] 0 r _ hr hn ?_ ?_
 · intro x r1 h hr1 hlt x1 sz1 hsz hX;refine endM_nil ?_;rw [h];obtain rfl:sz1=sizeX x:=by omega
   exact⟨x1,rfl,hr1,hlt,hX⟩
 · intro r1 h;rw [h]
end
end Go.Proofs.YtokiaaapgkdpmaaGreatDoor
