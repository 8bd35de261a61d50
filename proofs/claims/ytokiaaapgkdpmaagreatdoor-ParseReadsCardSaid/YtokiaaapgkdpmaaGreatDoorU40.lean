/- Parts: PsL, PsM. Conditions: each theorem's own. -/
import Derived.Test.YtokiaaapgkdpmaaGreatDoorU37
namespace Go.Proofs.YtokiaaapgkdpmaaGreatDoor
set_option linter.unusedVariables false
set_option linter.unusedSimpArgs false
set_option maxRecDepth 100000
set_option maxHeartbeats 40000000
section
def TG(M:Nat)(r:List Tk):Prop:=∀ t∈r,t.s.length≤M
def GX(M:Nat)(x:Ex):Prop:=x.s.size≤M∧∀ t∈x.arms,t.size≤M
def AllG(M:Nat)(x:Ex):Prop:=∀ p∈partsX x,GX M p∧p.arms.length≤p.subs.length+1
def FG(M n:Nat):Fr→Prop
 | .made x _=>GX M x∧x.arms.length≤1
 | .list _ _ x _=>GX M x∧x.arms.length≤1
 | .more x f=>GX M x∧x.arms.length+f=n
 | _=>True
def FGs(M:Nat):List Fr→Nat→Prop
 | [],_=>True
 | f::fs,n=>FG M n f∧FGs M fs (outH f n)
theorem FGs.append{M:Nat}{gs:List Fr}:∀ {fs:List Fr}{n:Nat},FGs M fs n→FGs M gs (outHs fs n)→FGs M (fs++gs) n
 | [],n,h,k=>k
 | f::fs,n,h,k=>⟨h.1,FGs.append h.2 k⟩
theorem ofB_size(s:List UInt8):(ofB s).size=s.length:=by simp[ofB,ByteArray.size]
theorem mem_partss{p:Ex}:∀ {l:List Ex},p∈partssX l→∃ y∈l,p∈partsX y
 | [],h=>by simp[partssX] at h
 | y::l,h=>by
  simp only[partssX,List.mem_append] at h;rcases h with h | h
  · exact⟨y,List.mem_cons_self,h⟩
  · obtain⟨z,hz,hp⟩:=mem_partss h;exact⟨z,List.mem_cons_of_mem _ hz,hp⟩
theorem allG_with{M:Nat}{x:Ex}{l:List Ex}(hx:GX M x)(ha:x.arms.length≤l.length+1)(hl:∀ y∈l,AllG M y):AllG M (withSubs x l):=by
 cases x with
 | mk k n s op a o=>
  intro p hp;simp only[withSubs,partsX,List.mem_cons] at hp;rcases hp with rfl | hp
  · exact⟨hx,ha⟩
  · obtain⟨y,hy,hp⟩:=mem_partss hp;exact hl y hy p hp
section
variable {M:Nat}{ps:List Ex}{sz:Nat}{r:List Tk}
theorem TG.tail(h:TG M r):TG M r.tail:=fun t ht=>h t (List.mem_of_mem_tail ht)
theorem tg_need{s:List UInt8}{r1:List Tk}{u:Unit}(h:TG M r)(hn:needP s r=.ok u r1):TG M r1:=by
 unfold needP at hn
 split at hn
 · injection hn with _ hn;subst hn;exact h.tail
 · cases hn
theorem tg_name{s:List UInt8}{r1:List Tk}(h:TG M r)(hn:nameP r=.ok s r1):TG M r1∧s.length≤M:=by
 match r,h,hn with
 | t::r',h,hn=>
  simp only[nameP] at hn
  split at hn
  · injection hn with hs hn;subst hn hs;exact⟨h.tail,h t List.mem_cons_self⟩
  · cases hn
 | [],h,hn=>cases hn
theorem tg_arm(hM:5≤M){s:List UInt8}{r1:List Tk}(h:TG M r)(hn:armP r=.ok s r1):TG M r1∧s.length≤M:=by
 unfold armP at hn
 split at hn
 · injection hn with hs hn;subst hn hs;exact⟨h.tail,by show 4≤M;omega⟩
 · split at hn
   · injection hn with hs hn;subst hn hs;exact⟨h.tail,by show 5≤M;omega⟩
   · match r,h,hn with
     | t::r',h,hn=>
      simp only at hn
      split at hn
      · injection hn with hs hn;subst hn hs;exact⟨h.tail,h t List.mem_cons_self⟩
      · cases hn
     | [],h,hn=>cases hn
theorem tg_when(hM:5≤M){z:List UInt8 × List UInt8}{r1:List Tk}(h:TG M r)(hn:whenP r=.ok z r1):TG M r1∧z.1.length≤M∧z.2.length≤M:=by
 unfold whenP at hn
 split at hn
 · obtain⟨n,r2,hn2,he⟩:=bind_okP hn;injection he with he1 he;subst he he1;have h2:=tg_name h.tail hn2;exact⟨h2.1,h2.2,by show 5≤M;omega⟩
 · split at hn
   · obtain⟨a,r2,ha,hn⟩:=bind_okP hn;obtain⟨u,r3,hu,hn⟩:=bind_okP hn;obtain⟨n,r4,hn2,hn⟩:=bind_okP hn;obtain⟨v,r5,hv,hn⟩:=bind_okP hn;injection hn with hn1 hn;subst hn hn1;have h1:=tg_arm hM h ha;have h2:=tg_need h1.1 hu;have h3:=tg_name h2 hn2;have h4:=tg_need h3.1 hv;exact⟨h4,h3.2,h1.2⟩
   · obtain⟨n,r2,hn2,he⟩:=bind_okP hn;injection he with he1 he;subst he he1;have h2:=tg_name h hn2;exact⟨h2.1,h2.2,by show 4≤M;omega⟩
theorem tg_plain{z:Ex × List Tk}(h:TG M r)(hn:plainP r=some z):TG M z.2∧GX M z.1∧z.1.arms=[]:=by
 match r,h,hn with
 | t::r',h,hn=>
  have ht:=h t List.mem_cons_self;have g0:∀ k n op,GX M (Ex.mk k n ByteArray.empty op [] []):=fun k n op=>⟨Nat.zero_le _,fun t ht=>absurd ht List.not_mem_nil⟩;have g1:∀ k n op,GX M (Ex.mk k n (ofB t.s) op [] []):=fun k n op=>⟨by show(ofB t.s).size≤M;rw[ofB_size];exact ht,fun t ht=>absurd ht List.not_mem_nil⟩;simp only[plainP] at hn
  split at hn
  · injection hn with hn;subst hn;exact⟨h.tail,g0 _ _ _,rfl⟩
  · split at hn
    · injection hn with hn;subst hn;exact⟨h.tail,g1 _ _ _,rfl⟩
    · split at hn
      · injection hn with hn;subst hn;exact⟨h.tail,g1 _ _ _,rfl⟩
      · split at hn
        · injection hn with hn;subst hn;exact⟨h.tail,g0 _ _ _,rfl⟩
        · split at hn
          · injection hn with hn;subst hn;exact⟨h.tail,g0 _ _ _,rfl⟩
          · cases hn
 | [],h,hn=>cases hn
def TE(M:Nat)(r:List Tk):Prop:=TG M r∧EndR r
theorem te_isP{s:List UInt8}(h:TE M r)(hi:isP s r=true):TE M r.tail:=⟨h.1.tail,(isP_end h.2 hi).1⟩
theorem te_sign{ops:List (Int × List UInt8)}(h:TE M r)(hi:signP ops r≠0):TE M r.tail:=⟨h.1.tail,(sign_end h.2 hi).1⟩
theorem te_need{s:List UInt8}{r1:List Tk}{u:Unit}(h:TE M r)(hn:needP s r=.ok u r1):TE M r1:=⟨tg_need h.1 hn,(need_end h.2 hn).1⟩
theorem te_name{s:List UInt8}{r1:List Tk}(h:TE M r)(hn:nameP r=.ok s r1):TE M r1∧s.length≤M:=⟨⟨(tg_name h.1 hn).1,(name_end h.2 hn).1⟩,(tg_name h.1 hn).2⟩
theorem te_arm(hM:5≤M){s:List UInt8}{r1:List Tk}(h:TE M r)(hn:armP r=.ok s r1):TE M r1∧s.length≤M:=⟨⟨(tg_arm hM h.1 hn).1,(arm_end h.2 hn).1⟩,(tg_arm hM h.1 hn).2⟩
theorem te_when(hM:5≤M){z:List UInt8 × List UInt8}{r1:List Tk}(h:TE M r)(hn:whenP r=.ok z r1):TE M r1∧z.1.length≤M∧z.2.length≤M:=⟨⟨(tg_when hM h.1 hn).1,(when_end h.2 hn).1⟩,(tg_when hM h.1 hn).2⟩
theorem te_plain{z:Ex × List Tk}(h:TE M r)(hn:plainP r=some z):TE M z.2∧GX M z.1∧z.1.arms=[]:=⟨⟨(tg_plain h.1 hn).1,(plain_end h.2 hn).1⟩,(tg_plain h.1 hn).2⟩
def SG(M sz:Nat)(o:Out):Prop:=match o with
 | .ok z r2=>FGs M z.1 z.2.1.length∧(z.2.2≤60→∀ y∈z.2.1,AllG M y)∧sz≤z.2.2∧TE M r2
 | .bad _=>True
theorem SG.bind{α:Type}{x:PR α}{g:α→List Tk→Out}(h:∀ a r2,x=.ok a r2→SG M sz (g a r2)):SG M sz (x.bind g):=by
 cases x with
 | ok a r2=>exact h a r2 rfl
 | bad q=>trivial
theorem gx0(k op:Int)(n:Int):GX M (Ex.mk k n ByteArray.empty op [] []):=⟨Nat.zero_le _,fun t ht=>absurd ht List.not_mem_nil⟩
theorem gxs{s:List UInt8}(h:s.length≤M)(k op:Int)(n:Int):GX M (Ex.mk k n (ofB s) op [] []):=⟨by show(ofB s).size≤M;rw[ofB_size];exact h,fun t ht=>absurd ht List.not_mem_nil⟩
theorem sg_made{x:Ex}{f:Nat}(hx:GX M x)(hf:f≤ps.length)(ha:x.arms.length≤ps.length-f+1)(hp:sz≤60→∀ y∈ps,AllG M y)(hr:TE M r):SG M sz (madeO x f ps sz r):=by
 refine⟨trivial,fun hz y hy=>?_,Nat.le_succ _,hr⟩;have hz':sz+1≤60:=hz;have hp':=hp (by omega);simp only[madeS,if_pos hz',List.mem_append,List.mem_singleton] at hy;rcases hy with hy | rfl
 · exact hp' y (List.mem_of_mem_take hy)
 · exact allG_with hx (by simp;omega) fun y hy=>hp' y (List.mem_of_mem_drop hy)
theorem sg_every{x:Ex}{f:Nat}(hx:GX M x)(ha:x.arms.length≤1)(hp:sz≤60→∀ y∈ps,AllG M y)(hr:TE M r):SG M sz (everyO x f ps sz r):=by
 unfold everyO
 split
 · refine⟨⟨trivial,⟨?_,?_⟩,trivial⟩,hp,Nat.le_refl _,te_isP hr (by assumption)⟩
   · cases x;exact hx
   · cases x;exact ha
 · exact⟨⟨⟨hx,ha⟩,trivial⟩,hp,Nat.le_refl _,hr⟩
theorem sg_arm(hM:5≤M){x:Ex}{f:Nat}(hx:GX M x)(ha:x.arms.length+f=ps.length)(hp:sz≤60→∀ y∈ps,AllG M y)(hr:TE M r):SG M sz (armO x f ps sz r):=by
 unfold armO;refine SG.bind fun u r1 h1=>?_;have t1:=te_need hr h1;refine SG.bind fun a r2 h2=>?_;have t2:=te_arm hM t1 h2;refine SG.bind fun v r3 h3=>?_;have t3:=te_need t2.1 h3;refine⟨⟨trivial,trivial,⟨?_,?_⟩,trivial⟩,hp,Nat.le_refl _,t3⟩
 · cases x with
   | mk k n s op l o=>
    refine⟨hx.1,fun t ht=>?_⟩;have ht':t∈l++[ofB a]:=ht;rcases List.mem_append.1 ht' with h | h
    · exact hx.2 t h
    · rw[List.mem_singleton.1 h,ofB_size];exact t2.2
 · cases x with
   | mk k n s op l o=>
    show(l++[ofB a]).length+f=ps.length+1
    have:l.length+f=ps.length:=ha
    simp
    omega
theorem sg_atom(hM:5≤M)(hp:sz≤60→∀ y∈ps,AllG M y)(hr:TE M r):SG M sz (atomO ps sz r):=by
 unfold atomO
 split
 · exact⟨⟨trivial,trivial,trivial⟩,hp,Nat.le_refl _,te_isP hr (by assumption)⟩
 split
 · exact⟨⟨trivial,⟨gx0 _ _ _,Nat.zero_le _⟩,trivial⟩,hp,Nat.le_refl _,te_isP hr (by assumption)⟩
 split
 · exact⟨⟨trivial,trivial,trivial,trivial,trivial,⟨gx0 _ _ _,Nat.zero_le _⟩,trivial⟩,hp,Nat.le_refl _,te_isP hr (by assumption)⟩
 split
 · unfold mergeO;refine SG.bind fun s r1 h1=>?_;have t1:=te_name (te_isP hr (by assumption)) h1;exact sg_arm hM (gxs t1.2 _ _ _) (by show 0+ps.length=_;omega) hp t1.1
 split
 · unfold namedO;refine SG.bind fun s r1 h1=>?_;have t1:=te_name hr h1
   split
   · unfold callO
     split
     · exact sg_every (gxs t1.2 _ _ _) (Nat.zero_le _) hp (te_isP (te_isP t1.1 (by assumption)) (by assumption))
     · exact⟨⟨trivial,⟨gxs t1.2 _ _ _,Nat.zero_le _⟩,trivial⟩,hp,Nat.le_refl _,(te_isP t1.1 (by assumption))⟩
   · exact sg_made (gxs t1.2 _ _ _) (Nat.le_refl _) (Nat.zero_le _) hp t1.1
 · unfold singleO
   cases hpl:plainP r with
   | none=>trivial
   | some z=>
    obtain⟨g1,g2,g3⟩:=te_plain hr hpl;exact sg_made g2 (Nat.le_refl _) (by rw[g3];exact Nat.zero_le _) hp g1
theorem sg_step(hM:5≤M){K:Nat}(f:Fr)(hn:NeedF K f ps.length r.length)(hf:FG M ps.length f)(hp:sz≤60→∀ y∈ps,AllG M y)(hr:TE M r):SG M sz (stepF f ps sz r):=by
 cases f with
 | m l=>
  cases l with
  | un=>
   show SG M sz (unO ps sz r)
   unfold unO
   split
   · exact⟨⟨trivial,⟨gx0 _ _ _,Nat.zero_le _⟩,trivial⟩,hp,Nat.le_refl _,te_sign hr (by assumption)⟩
   split
   · exact⟨⟨trivial,⟨gx0 _ _ _,Nat.zero_le _⟩,trivial⟩,hp,Nat.le_refl _,te_isP hr (by assumption)⟩
   · exact⟨⟨trivial,trivial⟩,hp,Nat.le_refl _,hr⟩
  | atom=>exact sg_atom hM hp hr
  | behind=>
   show SG M sz (behindO ps sz r)
   unfold behindO
   split
   · exact⟨⟨trivial,trivial,⟨gx0 _ _ _,Nat.zero_le _⟩,trivial,trivial⟩,hp,Nat.le_refl _,te_isP hr (by assumption)⟩
   split
   · refine SG.bind fun z r1 h1=>?_;obtain⟨t1,t2,t3⟩:=te_when hM (te_isP hr (by assumption)) h1;refine⟨⟨⟨⟨by show(ofB z.1).size≤M;rw[ofB_size];exact t2,fun t ht=>?_⟩,Nat.le_refl _⟩,trivial,trivial⟩,hp,Nat.le_refl _,t1⟩;have ht':t∈[ofB z.2]:=ht;rw[List.mem_singleton.1 ht',ofB_size];exact t3
   · exact⟨trivial,hp,Nat.le_refl _,hr⟩
  | brk=>
   show SG M sz (brkO ps sz r)
   unfold brkO
   split
   · exact⟨⟨trivial,trivial,trivial,trivial,trivial,⟨gx0 _ _ _,Nat.zero_le _⟩,trivial,trivial⟩,hp,Nat.le_refl _,te_isP hr (by assumption)⟩
   · exact⟨⟨trivial,trivial⟩,hp,Nat.le_refl _,hr⟩
  | _=>exact⟨⟨trivial,trivial,trivial⟩,hp,Nat.le_refl _,hr⟩
 | sign s=>
  refine SG.bind fun u r1 h1=>?_;exact⟨trivial,hp,Nat.le_refl _,te_need hr h1⟩
 | made x f=>exact sg_made hf.1 hn (by have:=hf.2;omega) hp hr
 | right s k o=>
  show SG M sz (if isP s r=true then _ else _)
  split
  · exact⟨⟨trivial,⟨gx0 _ _ _,Nat.zero_le _⟩,trivial⟩,hp,Nat.le_refl _,te_isP hr (by assumption)⟩
  · exact⟨trivial,hp,Nat.le_refl _,hr⟩
 | left ops side=>
  show SG M sz (if signP ops r≠0 then _ else _)
  split
  · exact⟨⟨trivial,⟨gx0 _ _ _,Nat.zero_le _⟩,trivial,trivial⟩,hp,Nat.le_refl _,te_sign hr (by assumption)⟩
  · exact⟨trivial,hp,Nat.le_refl _,hr⟩
 | once ops side=>
  show SG M sz (if signP ops r≠0 then _ else _)
  split
  · exact⟨⟨trivial,⟨gx0 _ _ _,Nat.zero_le _⟩,trivial⟩,hp,Nat.le_refl _,te_sign hr (by assumption)⟩
  · exact⟨trivial,hp,Nat.le_refl _,hr⟩
 | list shut ev x f=>
  show SG M sz (if isP [44] r=true then _ else _)
  split
  · exact⟨⟨trivial,⟨hf.1,hf.2⟩,trivial⟩,hp,Nat.le_refl _,te_isP hr (by assumption)⟩
  · refine SG.bind fun u r1 h1=>?_;have t1:=te_need hr h1;unfold thenO
    split
    · exact sg_every hf.1 hf.2 hp t1
    · exact sg_made hf.1 hn (by have:=hf.2;omega) hp t1
 | more x f=>
  have h3:x.arms.length+f=ps.length:=hf.2
  show SG M sz (if isP [40] r=true then _ else _)
  split
  · exact sg_arm hM hf.1 hf.2 hp hr
  · exact sg_made hf.1 hn.1 (by omega) hp hr
end
theorem ends_some{res:PR (List Ex × Nat)→Prop}:∀ {k:Nat}{fs:List Fr}{ps:List Ex}{sz:Nat}{r:List Tk},Ends k fs ps sz r res→∃ o,res o
 | 0,fs,ps,sz,r,h=>⟨_,h.2⟩
 | k+1,[],ps,sz,r,h=>h.elim
 | k+1,f::fs,ps,sz,r,h=>by
  simp only[Ends] at h
  split at h
  · exact ends_some h
  · exact⟨_,h⟩
mutual
theorem part_sizeX{p:Ex}:∀ {x:Ex},p∈partsX x→sizeX p≤sizeX x
 | .mk k n s op a l,h=>by
  simp only[partsX,List.mem_cons] at h;rcases h with rfl | h
  · exact Nat.le_refl _
  · have:=parts_sizeX h;simp only[sizeX];omega
theorem parts_sizeX{p:Ex}:∀ {l:List Ex},p∈partssX l→sizeX p≤sizesX l
 | [],h=>by simp[partssX] at h
 | y::l,h=>by
  simp only[partssX,List.mem_append] at h;simp only[sizesX];rcases h with h | h
  · have:=part_sizeX h;omega
  · have:=parts_sizeX h;omega
end
theorem sizes_len_:∀ l:List Ex,l.length≤sizesX l
 | []=>Nat.le_refl 0
 | y::l=>by
  have:=sizes_len_ l;have:=size_pos y;simp only[List.length_cons,sizesX];omega
theorem subs_size(p:Ex):p.subs.length<sizeX p:=by
 cases p with
 | mk k n s op a l=>
  have:=sizes_len_ l
  show l.length<sizeX (Ex.mk k n s op a l)
  rw[sizeX_mk];omega
theorem ends_good{M K:Nat}(hM:5≤M){res:PR (List Ex × Nat)→Prop}:∀ (k:Nat) (fs:List Fr) (ps:List Ex) (sz:Nat) (r:List Tk),Ends k fs ps sz r res→r.length≤K→Fits K fs ps.length r.length→FGs M fs ps.length→(sz≤60→∀ y∈ps,AllG M y)→TE M r →
 Ends k fs ps sz r fun o=>res o∧match o with
  | .ok z _=>z.2≤60→∀ y∈z.1,AllG M y
  | .bad _=>True
 | 0,fs,ps,sz,r,h,hK,hfit,hfg,hp,hr=>⟨h.1,h.2,hp⟩
 | k+1,[],ps,sz,r,h,hK,hfit,hfg,hp,hr=>h
 | k+1,f::fs,ps,sz,r,h,hK,hfit,hfg,hp,hr=>by
  have hok:=step_ok (sz:=sz) f hr.2 hK hfit.1;have hsg:=sg_step hM f hfit.1 hfg.1 hp hr;simp only[Ends] at h ⊢
  cases hs:stepF f ps sz r with
  | bad q=>
   rw[hs] at h;exact⟨h,trivial⟩
  | ok z r2=>
   rw[hs] at h hok hsg;obtain⟨o1,o2,o3,o4,o5,o6⟩:=hok;obtain⟨g1,g2,g3,g4⟩:=hsg;exact ends_good hM k _ _ _ _ h (by omega) (Fits.append o5 (by rw[o6];exact Fits.mono o4 hfit.2)) (FGs.append g1 (by rw[o6];exact hfg.2)) g2 g4
theorem read_short{M N:Nat}{r r1:List Tk}{x:Ex}(hM:5≤M)(hM2:M≤1000)(hr:TE M r)(hN:r.length≤N)(hp:(psN N).ar r=.ok x r1)(hz:sizeX x≤60):∀ p∈partsX x,ShortP p:=by
 obtain⟨k,h⟩:=machine_ends hr.2 hN;have h2:=ends_good (K:=r.length) hM k [.m .arrow] [] 0 r h (Nat.le_refl _) ⟨trivial,trivial⟩ ⟨trivial,trivial⟩ (fun _ y hy=>absurd hy List.not_mem_nil) hr
 have h3:∃ res:PR (List Ex × Nat),(match (psN N).ar r with
  | .ok x r1=>∃ x1,res=.ok ([x1],sizeX x) r1∧EndR r1∧r1.length<r.length∧(sizeX x≤60→x1=x)
  | .bad r1=>res=.bad r1)∧match res with
  | .ok z _=>z.2≤60→∀ y∈z.1,AllG M y
  | .bad _=>True:=ends_some h2
 obtain⟨res,h4,h5⟩:=h3;rw[hp] at h4;obtain⟨x1,rfl,_,_,h6⟩:=h4;have h7:=h5 hz x1 (List.mem_singleton.2 rfl);rw[h6 hz] at h7;intro p hp;obtain⟨⟨g1,g2⟩,g3⟩:=h7 p hp;have hsz:sizeX p≤sizeX x:=part_sizeX hp;have hlen:p.subs.length<sizeX p:=subs_size p;exact⟨by omega,fun t ht=>by have:=g2 t ht;omega,by omega⟩
end
section
section
variable {ps:List Ex}{sz:Nat}{r:List Tk}
theorem need_bad{s:List UInt8}{q:List Tk}(h:EndR r)(hn:needP s r=.bad q):EndR q:=by
 unfold needP at hn
 split at hn
 · cases hn
 · injection hn with hn;subst hn;exact h
theorem name_bad{q:List Tk}(h:EndR r)(hn:nameP r=.bad q):EndR q:=by
 match r,h,hn with
 | t::r',h,hn=>
  simp only[nameP] at hn
  split at hn
  · cases hn
  · injection hn with hn;subst hn;exact h
 | [],h,hn=>
  injection hn with hn;subst hn;exact h
theorem arm_bad{q:List Tk}(h:EndR r)(hn:armP r=.bad q):EndR q:=by
 unfold armP at hn
 split at hn
 · cases hn
 · split at hn
   · cases hn
   · match r,h,hn with
     | t::r',h,hn=>
      simp only at hn
      split at hn
      · cases hn
      · injection hn with hn;subst hn;exact h
     | [],h,hn=>
      injection hn with hn;subst hn;exact h
def BE{α:Type}(x:PR α):Prop:=match x with
 | .bad q=>EndR q
 | .ok _ _=>True
theorem BE.bind{α β:Type}{x:PR α}{g:α→List Tk→PR β}(hx:BE x)(hg:∀ a r1,x=.ok a r1→BE (g a r1)):BE (x.bind g):=by
 cases x with
 | ok a r1=>exact hg a r1 rfl
 | bad q=>exact hx
theorem be_need{s:List UInt8}(h:EndR r):BE (needP s r):=by
 cases hn:needP s r with
 | ok a r1=>trivial
 | bad q=>exact need_bad h hn
theorem be_name(h:EndR r):BE (nameP r):=by
 cases hn:nameP r with
 | ok a r1=>trivial
 | bad q=>exact name_bad h hn
theorem be_arm(h:EndR r):BE (armP r):=by
 cases hn:armP r with
 | ok a r1=>trivial
 | bad q=>exact arm_bad h hn
theorem be_when(h:EndR r):BE (whenP r):=by
 unfold whenP
 split
 · rename_i hi
   exact(be_name (isP_end h hi).1).bind fun _ _ _=>trivial
 · split
   · refine(be_arm h).bind fun a r1 h1=>?_;have e1:=(arm_end h h1).1;refine(be_need e1).bind fun u r2 h2=>?_;have e2:=(need_end e1 h2).1;refine(be_name e2).bind fun u r3 h3=>?_;have e3:=(name_end e2 h3).1;exact(be_need e3).bind fun _ _ _=>trivial
   · exact(be_name h).bind fun _ _ _=>trivial
theorem be_armO(x:Ex)(f:Nat)(h:EndR r):BE (armO x f ps sz r):=by
 unfold armO;refine(be_need h).bind fun u r1 h1=>?_;have e1:=(need_end h h1).1;unfold armO1;refine(be_arm e1).bind fun a r2 h2=>?_;exact(be_need (arm_end e1 h2).1).bind fun _ _ _=>trivial
theorem be_every(x:Ex)(f:Nat):BE (everyO x f ps sz r):=by
 unfold everyO
 split <;> trivial
theorem be_atom(h:EndR r):BE (atomO ps sz r):=by
 unfold atomO
 split
 · trivial
 split
 · trivial
 split
 · trivial
 split
 · rename_i hi
   unfold mergeO;refine(be_name (isP_end h hi).1).bind fun s r1 h1=>?_;exact be_armO _ _ (name_end (isP_end h hi).1 h1).1
 split
 · unfold namedO;refine(be_name h).bind fun s r1 h1=>?_
   split
   · unfold callO
     split
     · exact be_every _ _
     · trivial
   · trivial
 · unfold singleO
   cases plainP r with
   | none=>exact h
   | some z=>trivial
theorem step_bad(f:Fr)(h:EndR r):BE (stepF f ps sz r):=by
 cases f with
 | m l=>
  cases l with
  | un=>
   show BE (unO ps sz r)
   unfold unO
   split
   · trivial
   split <;> trivial
  | atom=>exact be_atom h
  | behind=>
   show BE (behindO ps sz r)
   unfold behindO
   split
   · trivial
   split
   · rename_i hi
     exact(be_when (isP_end h hi).1).bind fun _ _ _=>trivial
   · trivial
  | brk=>
   show BE (brkO ps sz r)
   unfold brkO
   split <;> trivial
  | _=>trivial
 | sign s=>exact(be_need h).bind fun _ _ _=>trivial
 | made x f=>trivial
 | right s k o=>
  show BE (if isP s r=true then _ else _)
  split <;> trivial
 | left ops side=>
  show BE (if signP ops r≠0 then _ else _)
  split <;> trivial
 | once ops side=>
  show BE (if signP ops r≠0 then _ else _)
  split <;> trivial
 | list shut ev x f=>
  show BE (if isP [44] r=true then _ else _)
  split
  · trivial
  · refine(be_need h).bind fun u r1 h1=>?_;unfold thenO
    split
    · exact be_every _ _
    · trivial
 | more x f=>
  show BE (if isP [40] r=true then _ else _)
  split
  · exact be_armO _ _ h
  · trivial
end
theorem ends_bad{M K:Nat}(hM:5≤M){res:PR (List Ex × Nat)→Prop}:∀ (k:Nat) (fs:List Fr) (ps:List Ex) (sz:Nat) (r:List Tk),Ends k fs ps sz r res→r.length≤K→Fits K fs ps.length r.length→FGs M fs ps.length→(sz≤60→∀ y∈ps,AllG M y)→TE M r →
 Ends k fs ps sz r fun o=>res o∧match o with
  | .ok _ _=>True
  | .bad q=>EndR q
 | 0,fs,ps,sz,r,h,hK,hfit,hfg,hp,hr=>⟨h.1,h.2,trivial⟩
 | k+1,[],ps,sz,r,h,hK,hfit,hfg,hp,hr=>h
 | k+1,f::fs,ps,sz,r,h,hK,hfit,hfg,hp,hr=>by
  have hok:=step_ok (sz:=sz) f hr.2 hK hfit.1;have hsg:=sg_step hM f hfit.1 hfg.1 hp hr;have hbe:=step_bad (ps:=ps) (sz:=sz) f hr.2;simp only[Ends] at h ⊢
  cases hs:stepF f ps sz r with
  | bad q=>
   rw[hs] at h hbe;exact⟨h,hbe⟩
  | ok z r2=>
   rw[hs] at h hok hsg;obtain⟨o1,o2,o3,o4,o5,o6⟩:=hok;obtain⟨g1,g2,g3,g4⟩:=hsg;exact ends_bad hM k _ _ _ _ h (by omega) (Fits.append o5 (by rw[o6];exact Fits.mono o4 hfit.2)) (FGs.append g1 (by rw[o6];exact hfg.2)) g2 g4
theorem read_bad{M N:Nat}{r q:List Tk}(hM:5≤M)(hr:TE M r)(hN:r.length≤N)(hp:(psN N).ar r=.bad q):EndR q:=by
 obtain⟨k,h⟩:=machine_ends hr.2 hN;have h2:=ends_bad (K:=r.length) hM k [.m .arrow] [] 0 r h (Nat.le_refl _) ⟨trivial,trivial⟩ ⟨trivial,trivial⟩ (fun _ y hy=>absurd hy List.not_mem_nil) hr
 have h3:∃ res:PR (List Ex × Nat),(match (psN N).ar r with
  | .ok x r1=>∃ x1,res=.ok ([x1],sizeX x) r1∧EndR r1∧r1.length<r.length∧(sizeX x≤60→x1=x)
  | .bad r1=>res=.bad r1)∧match res with
  | .ok _ _=>True
  | .bad q=>EndR q:=ends_some h2
 obtain⟨res,h4,h5⟩:=h3;rw[hp] at h4;have h6:res=.bad q:=h4;subst h6;exact h5
end
end Go.Proofs.YtokiaaapgkdpmaaGreatDoor
