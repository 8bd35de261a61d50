/- Parts of the proof: PtO. Conditions: each theorem's own. -/
import Derived.Test.YtpedcgpcchbhpaaGreatDoorU10
import Derived.Test.YtpedcgpcchbhpaaGreatDoorU25
namespace Go.Proofs.YtpedcgpcchbhpaaGreatDoor
set_option linter.unusedVariables false
set_option linter.unusedSimpArgs false
set_option maxRecDepth 100000
set_option maxHeartbeats 40000000
section
def okT(n:Nat) (d:Dc):Prop:=rightB n d.k d.e d.l=true
theorem declF_of{n:Nat}{d:Dc}(h:declB n rightB d=true):DeclF (okT n) d:=by
 simp only [declB,Bool.and_eq_true,Bool.or_eq_true] at h;obtain⟨⟨h1,h2⟩,h3⟩:=h;refine⟨h2,h1,?_⟩;rcases h3 with⟨h3,h4⟩|⟨h3,h4⟩
 · exact .inl ⟨h3,h4⟩
 · refine .inr ⟨?_,h3,?_⟩
   · cases hn:noB d.on with
     | false=>rfl
     | true=>exact absurd (eq_of_beq hn) (low_nil h3)
   · simp only [armT,Bool.or_eq_true,beq_iff_eq] at h4;rcases h4 with(h4 | h4) | h4
     · exact .inr (.inr h4)
     · exact .inl h4
     · exact .inr (.inl h4)
theorem qnF_of{q:Qn}(h:eqB rightX q=true):QnF q:=by
 simp only [eqB,Bool.and_eq_true,List.all_eq_true] at h;exact⟨h.1.1.1,right_ok h.1.2⟩
theorem ndF_of{n:Nat}{x:Nd}(h:nodeB n rightB rightX x=true):NdF (okT n) x:=by
 simp only [nodeB,portsB,Bool.and_eq_true,List.all_eq_true] at h;obtain⟨⟨⟨⟨h1,h2⟩,h3⟩,h4⟩,h5⟩:=h;have hall:∀ d,(d∈x.ins∨d∈x.outs)∨d∈x.vars→DeclF (okT n) d:=fun d hd=>declF_of (h1 d (by rw [Nd.all,List.mem_append,List.mem_append];exact hd));exact⟨h4,fun d hd=>⟨hall d (.inl (.inl hd)),h2 d (List.mem_append_left _ hd)⟩,fun d hd=>⟨hall d (.inl (.inr hd)),h2 d (List.mem_append_right _ hd)⟩,fun d hd=>hall d (.inr hd),fun q hq=>qnF_of (h3 q hq)⟩
theorem check_facts{p:Pg}(h:checkN p=0):enumsN p.es=0∧0<p.ns.length∧∀ x∈p.ns,NdF (okT p.es.length) x:=by
 unfold checkN at h
 split at h
 · rename_i he
   refine⟨he,?_⟩
   split at h
   · cases h
   · rename_i h0
     split at h
     · cases h
     · split at h
       · cases h
       · split at h
         · rename_i hr
           exact⟨by omega,fun x hx=>ndF_of (List.all_eq_true.1 hr x hx)⟩
         · cases h
 · rename_i he
   exact absurd h he
theorem enF_of{es:List En}(h:enumsN es=0):∀ e∈es,EnF e:=by
 have h1:namedB es=true:=by
  unfold enumsN at h
  split at h
  · cases h
  · split at h
    · assumption
    · cases h
 unfold namedB at h1;rw [Bool.and_eq_true,List.all_eq_true,List.all_eq_true] at h1;intro e he;obtain⟨i,hi,rfl⟩:=List.getElem_of_mem he;have h2:=h1.1 _ he;simp only [enB,Bool.and_eq_true] at h2;refine⟨h2.1,fun s hs=>h1.2 s ?_⟩;obtain⟨q,hq,rfl⟩:=List.getElem_of_mem hs;have hcs:csE es i=(es[i]'hi).2:=by simp [csE,List.getElem?_eq_getElem hi]
 have hm:((i,q,ctAt es i q):Pl)∈flatE es:=by
  have h3:((i,q,ctAt es i q):Pl)∈flatTo es (i+1):=by
   simp only [flatTo,List.mem_append]
   right
   unfold rowTo;exact List.mem_map.2 ⟨q,List.mem_range.2 (by rw [hcs];exact hq),rfl⟩
  exact(flatTo_pre es (i+1) es.length (by omega)).subset h3
 have he2:ctAt es i q=(es[i]'hi).2[q]'hq:=by
  unfold ctAt;rw [hcs,List.getElem?_eq_getElem hq,Option.getD_some]
 rw [← he2];exact List.mem_map.2 ⟨_,hm,rfl⟩
def progL(ty:Dc→List UInt8) (p:Pg):List UInt8:=enumsT p.es++nodesT ty p.ns
theorem prog_inj{ty:List En→Dc→List UInt8}(ht:∀ es,enumsN es=0→TyF (okT es.length) (ty es)){p q:Pg}(hp:checkN p=0) (hq:checkN q=0) (h:progL (ty p.es) p=progL (ty q.es) q):p=q:=by
 obtain⟨h1,_,h2⟩:=check_facts hp;obtain⟨g1,_,g2⟩:=check_facts hq;obtain⟨e1,e2⟩:=enums_inj (nodes_beg _ _) (nodes_beg _ _) (enF_of h1) (enF_of g1) h;obtain⟨pe,pn⟩:=p;obtain⟨qe,qn⟩:=q;simp only at e1 e2 h1 h2 g2;subst e1;rw [nodes_inj (ht pe h1) h2 g2 e2]
theorem prog_some{ty:Dc→List UInt8}{p:Pg}(hp:checkN p=0):progL ty p≠[]:=by
 obtain⟨_,h0,_⟩:=check_facts hp;obtain⟨es,ns⟩:=p
 cases ns with
 | nil=>simp at h0
 | cons a l=>simp [progL,nodesT,nodeT,nodeW]
theorem sameL_imp{α:Type}{f:α→α→Bool}(hf:∀ a b,f a b=true→a=b):∀ {l m:List α},sameL f l m=true→l=m
 | [],[],_=>rfl
 | [],b::m,h=>by cases h
 | a::l,[],h=>by cases h
 | a::l,b::m,h=>by
  simp only [sameL,Bool.and_eq_true] at h;rw [hf a b h.1,sameL_imp hf h.2]
theorem eqD_imp{a b:Dc}(h:eqD a b=true):a=b:=by
 simp only [eqD,Bool.and_eq_true,beq_iff_eq] at h;obtain⟨⟨⟨⟨⟨h1,h2⟩,h3⟩,h4⟩,h5⟩,h6⟩:=h;obtain⟨a1,a2,a3,a4,a5,a6⟩:=a;obtain⟨b1,b2,b3,b4,b5,b6⟩:=b;simp only at h1 h2 h3 h4 h5 h6;rw [toL_inj h1,h2,h3,h4,toL_inj h5,toL_inj h6]
theorem eqE_imp{a b:En}(h:eqE a b=true):a=b:=by
 simp only [eqE,Bool.and_eq_true,beq_iff_eq] at h;obtain⟨a1,a2⟩:=a;obtain⟨b1,b2⟩:=b;rw [show a1=b1 from toL_inj h.1,show a2=b2 from sameT_imp h.2]
theorem eqQ_imp{a b:Qn}(h:eqQ a b=true):a=b:=by
 simp only [eqQ,Bool.and_eq_true] at h;obtain⟨a1,a2⟩:=a;obtain⟨b1,b2⟩:=b;rw [show a1=b1 from sameT_imp h.1,show a2=b2 from sameX_imp _ _ h.2]
theorem eqN_imp{a b:Nd}(h:eqN a b=true):a=b:=by
 simp only [eqN,Bool.and_eq_true,beq_iff_eq] at h;obtain⟨⟨⟨⟨h1,h2⟩,h3⟩,h4⟩,h5⟩:=h;obtain⟨a1,a2,a3,a4,a5⟩:=a;obtain⟨b1,b2,b3,b4,b5⟩:=b;rw [show a1=b1 from toL_inj h1,show a2=b2 from sameL_imp (fun _ _=>eqD_imp) h2,show a3=b3 from sameL_imp (fun _ _=>eqD_imp) h3,show a4=b4 from sameL_imp (fun _ _=>eqD_imp) h4,show a5=b5 from sameL_imp (fun _ _=>eqQ_imp) h5]
theorem eqP_imp{a b:Pg}(h:eqP a b=true):a=b:=by
 simp only [eqP,Bool.and_eq_true] at h;obtain⟨a1,a2⟩:=a;obtain⟨b1,b2⟩:=b;rw [show a1=b1 from sameL_imp (fun _ _=>eqE_imp) h.1,show a2=b2 from sameL_imp (fun _ _=>eqN_imp) h.2]
end
end Go.Proofs.YtpedcgpcchbhpaaGreatDoor
