/- A part of the proof. Conditions: each theorem's own. -/
import Derived.Test.YtagkcjpoipcpkaaGreatDoorF17
import Derived.Test.YtagkcjpoipcpkaaGreatDoorF22
import Derived.Test.YtagkcjpoipcpkaaGreatDoorF24
namespace Go.Proofs.YtagkcjpoipcpkaaGreatDoor
set_option linter.unusedVariables false
set_option linter.unusedSimpArgs false
set_option maxRecDepth 100000
set_option maxHeartbeats 40000000
def Sf{α:Type}(r0:List Tk)(x:PR α):Prop:=match x with
 |.ok _ r=>r <:+r0
 |.bad r=>r <:+r0
abbrev gM {α:Type}(P:List Tk->PR α):Prop:=∀r,Sf r (P r)
theorem Sf.ok{α:Type}(a:α)(r:List Tk):Sf r (PR.ok a r):=List.suffix_refl r
theorem Sf.okt{α:Type}(a:α)(r:List Tk):Sf r (PR.ok a r.tail):=List.tail_suffix r
theorem Sf.okc{α:Type}(a:α)(t:Tk)(r:List Tk):Sf (t::r) (PR.ok a r):=List.suffix_cons t r
theorem Sf.bad{α:Type}(r:List Tk):Sf r (PR.bad r:PR α):=List.suffix_refl r
theorem Sf.tr{α:Type}{r r0:List Tk}{x:PR α}(h:Sf r x)(hs:r <:+r0):Sf r0 x:=by
 exact bDk
theorem Sf.tail{α:Type}{r:List Tk}{x:PR α}(h:Sf r.tail x):Sf r x:=h.tr (List.tail_suffix r)
theorem Sf.cons{α:Type}{t:Tk}{r:List Tk}{x:PR α}(h:Sf r x):Sf (t::r) x:=h.tr (List.suffix_cons t r)
theorem Sf.bind{α β:Type}{r0:List Tk}{x:PR α}{f:α->List Tk->PR β}(h:Sf r0 x)(g:∀a r,Sf r (f a r)):Sf r0 (x.bind f):=by
 cases x with
 |ok a r=>exact(g a r).tr h
 |bad r=>exact h
theorem sf_need(s:LU)(r:List Tk):Sf r (aR s r):=by
 unfold aR;split;· exact Sf.okt _ _
 . exact Sf.bad _
theorem sf_name(r:List Tk):Sf r (bT r):=by
 unfold bT;exact aJs
theorem sf_high(r:List Tk):Sf r (kT r):=by
 unfold kT;exact aJs
theorem sf_arm(r:List Tk):Sf r (fO r):=by
 unfold fO;split;· exact Sf.okt _ _
 . split;· exact Sf.okt _ _
   . exact aJs
theorem sf_when(r:List Tk):Sf r (dU r):=by
 unfold dU;repeat (first|with_reducible exact Sf.ok _ _|with_reducible exact Sf.okt _ _|with_reducible exact Sf.bad _|with_reducible exact sf_need _ _|with_reducible exact sf_name _|with_reducible exact sf_high _|(with_reducible exact sf_arm _)|with_reducible refine Sf.bind ?_ fun _ _=>?_|split|(with_reducible refine Sf.tail ?_;first|with_reducible exact sf_need _ _|with_reducible exact sf_name _|with_reducible exact sf_high _|(with_reducible exact sf_arm _)))
theorem sf_more{ar:bZ}(ha:gM ar):∀f acc r,Sf r (qP ar f acc r)
 |0,acc,r=>Sf.ok _ _
 |f+1,acc,r=>by
  rw[qP];repeat (first|with_reducible exact Sf.ok _ _|with_reducible exact Sf.okt _ _|with_reducible exact Sf.bad _|with_reducible exact sf_need _ _|with_reducible exact sf_name _|with_reducible exact sf_high _|(first|with_reducible exact ha _|exact sf_more ha _ _ _)|with_reducible refine Sf.bind ?_ fun _ _=>?_|split|(with_reducible refine Sf.tail ?_;first|with_reducible exact sf_need _ _|with_reducible exact sf_name _|with_reducible exact sf_high _|(first|with_reducible exact ha _|exact sf_more ha _ _ _)))
theorem sf_list{ar:bZ}(ha:gM ar)(m:LU)(r:List Tk):Sf r (sH ar m r):=by
 unfold sH;repeat (first|with_reducible exact Sf.ok _ _|with_reducible exact Sf.okt _ _|with_reducible exact Sf.bad _|with_reducible exact sf_need _ _|with_reducible exact sf_name _|with_reducible exact sf_high _|(first|with_reducible exact ha _|with_reducible exact sf_more ha _ _ _)|with_reducible refine Sf.bind ?_ fun _ _=>?_|split|(with_reducible refine Sf.tail ?_;first|with_reducible exact sf_need _ _|with_reducible exact sf_name _|with_reducible exact sf_high _|(first|with_reducible exact ha _|with_reducible exact sf_more ha _ _ _)))
theorem sf_every{po:bZ}(hp:gM po)(s:LU)(l:List Ex)(r:List Tk):Sf r (rX po s l r):=by
 unfold rX;repeat (first|with_reducible exact Sf.ok _ _|with_reducible exact Sf.okt _ _|with_reducible exact Sf.bad _|with_reducible exact sf_need _ _|with_reducible exact sf_name _|with_reducible exact sf_high _|(with_reducible exact hp _)|with_reducible refine Sf.bind ?_ fun _ _=>?_|split|(with_reducible refine Sf.tail ?_;first|with_reducible exact sf_need _ _|with_reducible exact sf_name _|with_reducible exact sf_high _|(with_reducible exact hp _)))
theorem sf_call{ar po:bZ}(ha:gM ar)(hp:gM po)(s:LU)(r:List Tk):Sf r (uY ar po s r):=by
 unfold uY;repeat (first|with_reducible exact Sf.ok _ _|with_reducible exact Sf.okt _ _|with_reducible exact Sf.bad _|with_reducible exact sf_need _ _|with_reducible exact sf_name _|with_reducible exact sf_high _|(first|with_reducible exact sf_list ha _ _|with_reducible exact sf_every hp _ _ _)|with_reducible refine Sf.bind ?_ fun _ _=>?_|split|(with_reducible refine Sf.tail ?_;first|with_reducible exact sf_need _ _|with_reducible exact sf_name _|with_reducible exact sf_high _|(first|with_reducible exact sf_list ha _ _|with_reducible exact sf_every hp _ _ _)))
theorem sf_arms{ar:bZ}(ha:gM ar):∀f am l r,Sf r (nX ar f am l r)
 |0,am,l,r=>Sf.ok _ _
 |f+1,am,l,r=>by
  rw[nX];repeat (first|with_reducible exact Sf.ok _ _|with_reducible exact Sf.okt _ _|with_reducible exact Sf.bad _|with_reducible exact sf_need _ _|with_reducible exact sf_name _|with_reducible exact sf_high _|(first|with_reducible exact ha _|with_reducible exact sf_arm _|exact sf_arms ha _ _ _ _)|with_reducible refine Sf.bind ?_ fun _ _=>?_|split|(with_reducible refine Sf.tail ?_;first|with_reducible exact sf_need _ _|with_reducible exact sf_name _|with_reducible exact sf_high _|(first|with_reducible exact ha _|with_reducible exact sf_arm _|exact sf_arms ha _ _ _ _)))
theorem sf_merge{ar:bZ}(ha:gM ar)(r:List Tk):Sf r (wH ar r):=by
 unfold wH;repeat (first|with_reducible exact Sf.ok _ _|with_reducible exact Sf.okt _ _|with_reducible exact Sf.bad _|with_reducible exact sf_need _ _|with_reducible exact sf_name _|with_reducible exact sf_high _|(with_reducible exact sf_arms ha _ _ _ _)|with_reducible refine Sf.bind ?_ fun _ _=>?_|split|(with_reducible refine Sf.tail ?_;first|with_reducible exact sf_need _ _|with_reducible exact sf_name _|with_reducible exact sf_high _|(with_reducible exact sf_arms ha _ _ _ _)))
theorem sf_round{ar:bZ}(ha:gM ar)(r:List Tk):Sf r (nQ ar r):=by
 unfold nQ;exact bGu
theorem bUb{r:List Tk}{z:Ex × List Tk}(h:dK r=some z):z.2 <:+r:=by
 unfold dK at h;split at h
 . repeat' split at h
   all_goals first|(injection h with h;subst h;exact List.suffix_cons _ _)|cases h
 . cases h
theorem sf_if{ar:bZ}(ha:gM ar)(r:List Tk):Sf r (uA ar r):=by
 unfold uA;exact bGu
theorem sf_atom{ar po:bZ}(ha:gM ar)(hp:gM po)(r:List Tk):Sf r (dD ar po r):=by
 unfold dD;split
 . rename_i z hz;exact bUb hz
 . repeat (first|with_reducible exact Sf.ok _ _|with_reducible exact Sf.okt _ _|with_reducible exact Sf.bad _|with_reducible exact sf_need _ _|with_reducible exact sf_name _|with_reducible exact sf_high _|(first|with_reducible exact sf_list ha _ _|with_reducible exact sf_round ha _|with_reducible exact sf_merge ha _|with_reducible exact sf_if ha _|with_reducible exact sf_call ha hp _ _)|with_reducible refine Sf.bind ?_ fun _ _=>?_|split|(with_reducible refine Sf.tail ?_;first|with_reducible exact sf_need _ _|with_reducible exact sf_name _|with_reducible exact sf_high _|(first|with_reducible exact sf_list ha _ _|with_reducible exact sf_round ha _|with_reducible exact sf_merge ha _|with_reducible exact sf_if ha _|with_reducible exact sf_call ha hp _ _)))
theorem sf_tail{ar:bZ}(ha:gM ar):∀f e r,Sf r (kS ar f e r)
 |0,e,r=>Sf.ok _ _
 |f+1,e,r=>by
  rw[kS];repeat (first|with_reducible exact Sf.ok _ _|with_reducible exact Sf.okt _ _|with_reducible exact Sf.bad _|with_reducible exact sf_need _ _|with_reducible exact sf_name _|with_reducible exact sf_high _|(first|with_reducible exact ha _|with_reducible exact sf_when _|exact sf_tail ha _ _ _)|with_reducible refine Sf.bind ?_ fun _ _=>?_|split|(with_reducible refine Sf.tail ?_;first|with_reducible exact sf_need _ _|with_reducible exact sf_name _|with_reducible exact sf_high _|(first|with_reducible exact ha _|with_reducible exact sf_when _|exact sf_tail ha _ _ _)))
theorem sf_post{ar po:bZ}(ha:gM ar)(hp:gM po)(r:List Tk):Sf r (nY ar po r):=by
 unfold nY;repeat (first|with_reducible exact Sf.ok _ _|with_reducible exact Sf.okt _ _|with_reducible exact Sf.bad _|with_reducible exact sf_need _ _|with_reducible exact sf_name _|with_reducible exact sf_high _|(first|with_reducible exact sf_atom ha hp _|with_reducible exact sf_tail ha _ _ _)|with_reducible refine Sf.bind ?_ fun _ _=>?_|split|(with_reducible refine Sf.tail ?_;first|with_reducible exact sf_need _ _|with_reducible exact sf_name _|with_reducible exact sf_high _|(first|with_reducible exact sf_atom ha hp _|with_reducible exact sf_tail ha _ _ _)))
theorem sf_chain{Ae:bZ}(hs:gM Ae)(Aa:List (Int × List UInt8)):∀f e r,Sf r (iN Ae Aa f e r)
 |0,e,r=>Sf.ok _ _
 |f+1,e,r=>by
  rw[iN];repeat (first|with_reducible exact Sf.ok _ _|with_reducible exact Sf.okt _ _|with_reducible exact Sf.bad _|with_reducible exact sf_need _ _|with_reducible exact sf_name _|with_reducible exact sf_high _|(first|with_reducible exact hs _|exact sf_chain hs Aa _ _ _)|with_reducible refine Sf.bind ?_ fun _ _=>?_|split|(with_reducible refine Sf.tail ?_;first|with_reducible exact sf_need _ _|with_reducible exact sf_name _|with_reducible exact sf_high _|(first|with_reducible exact hs _|exact sf_chain hs Aa _ _ _)))
structure xE (P:Ps):Prop where
 ar:gM P.ar
 fb:gM P.fb
 un:gM P.un
 po:gM P.po
theorem aQs{P:Ps}(h:xE P):gM (iZ P):=fun r=>by
 unfold iZ;repeat (first|with_reducible exact Sf.ok _ _|with_reducible exact Sf.okt _ _|with_reducible exact Sf.bad _|with_reducible exact sf_need _ _|with_reducible exact sf_name _|with_reducible exact sf_high _|(first|with_reducible exact h.un _|with_reducible exact sf_post h.ar h.po _)|with_reducible refine Sf.bind ?_ fun _ _=>?_|split|(with_reducible refine Sf.tail ?_;first|with_reducible exact sf_need _ _|with_reducible exact sf_name _|with_reducible exact sf_high _|(first|with_reducible exact h.un _|with_reducible exact sf_post h.ar h.po _)))
theorem aZ2{P:Ps}(h:xE P):gM (tN P):=fun r=>(aQs h r).bind fun _ _=>sf_chain (aQs h) _ _ _ _
theorem bBe{P:Ps}(h:xE P):gM (qY P):=fun r=>(aZ2 h r).bind fun _ _=>sf_chain (aZ2 h) _ _ _ _
theorem bBf{P:Ps}(h:xE P):gM (qZ P):=fun r=>(bBe h r).bind fun _ _=>sf_chain (bBe h) _ _ _ _
theorem bBg{P:Ps}(h:xE P):gM (rA P):=fun r=>(bBf h r).bind fun _ _=>sf_chain (bBf h) _ _ _ _
theorem sf_or{P:Ps}(h:xE P):gM (sV P):=fun r=>(bBg h r).bind fun _ _=>sf_chain (bBg h) _ _ _ _
theorem sf_fby{P:Ps}(h:xE P):gM (rB P):=fun r=>by
 unfold rB;repeat (first|with_reducible exact Sf.ok _ _|with_reducible exact Sf.okt _ _|with_reducible exact Sf.bad _|with_reducible exact sf_need _ _|with_reducible exact sf_name _|with_reducible exact sf_high _|(first|with_reducible exact sf_or h _|with_reducible exact h.fb _)|with_reducible refine Sf.bind ?_ fun _ _=>?_|split|(with_reducible refine Sf.tail ?_;first|with_reducible exact sf_need _ _|with_reducible exact sf_name _|with_reducible exact sf_high _|(first|with_reducible exact sf_or h _|with_reducible exact h.fb _)))
theorem bUc{P:Ps}(h:xE P):gM (pI P):=fun r=>by
 unfold pI;repeat (first|with_reducible exact Sf.ok _ _|with_reducible exact Sf.okt _ _|with_reducible exact Sf.bad _|with_reducible exact sf_need _ _|with_reducible exact sf_name _|with_reducible exact sf_high _|(first|with_reducible exact sf_fby h _|with_reducible exact h.ar _)|with_reducible refine Sf.bind ?_ fun _ _=>?_|split|(with_reducible refine Sf.tail ?_;first|with_reducible exact sf_need _ _|with_reducible exact sf_name _|with_reducible exact sf_high _|(first|with_reducible exact sf_fby h _|with_reducible exact h.ar _)))
theorem aCy:∀n,xE (aV n)
 |0=>⟨Sf.bad,Sf.bad,Sf.bad,Sf.bad⟩
 |n+1=>⟨bUc (aCy n),sf_fby (aCy n),aQs (aCy n),sf_post (aCy n).ar (aCy n).po⟩
theorem sf_commas{one:List Tk->PR (List UInt8)}(ho:gM one):∀f acc r,Sf r (gB one f acc r)
 |0,acc,r=>Sf.ok _ _
 |f+1,acc,r=>by
  rw[gB];repeat (first|with_reducible exact Sf.ok _ _|with_reducible exact Sf.okt _ _|with_reducible exact Sf.bad _|with_reducible exact sf_need _ _|with_reducible exact sf_name _|with_reducible exact sf_high _|(first|with_reducible exact ho _|exact sf_commas ho _ _ _)|with_reducible refine Sf.bind ?_ fun _ _=>?_|split|(with_reducible refine Sf.tail ?_;first|with_reducible exact sf_need _ _|with_reducible exact sf_name _|with_reducible exact sf_high _|(first|with_reducible exact ho _|exact sf_commas ho _ _ _)))
theorem aZ3(r:List Tk):Sf r (lI r):=by
 unfold lI;repeat (first|with_reducible exact Sf.ok _ _|with_reducible exact Sf.okt _ _|with_reducible exact Sf.bad _|with_reducible exact sf_need _ _|with_reducible exact sf_name _|with_reducible exact sf_high _|(with_reducible exact sf_commas sf_high _ _ _)|with_reducible refine Sf.bind ?_ fun _ _=>?_|split|(with_reducible refine Sf.tail ?_;first|with_reducible exact sf_need _ _|with_reducible exact sf_name _|with_reducible exact sf_high _|(with_reducible exact sf_commas sf_high _ _ _)))
theorem bXv(es:List En)(r:List Tk):Sf r (wQ es r):=by
 unfold wQ;repeat (first|with_reducible exact Sf.ok _ _|with_reducible exact Sf.okt _ _|with_reducible exact Sf.bad _|with_reducible exact sf_need _ _|with_reducible exact sf_name _|with_reducible exact sf_high _|(fail)|with_reducible refine Sf.bind ?_ fun _ _=>?_|split|(with_reducible refine Sf.tail ?_;first|with_reducible exact sf_need _ _|with_reducible exact sf_name _|with_reducible exact sf_high _|(fail)))
theorem sf_ty(es:List En)(r:List Tk):Sf r (rI es r):=by
 unfold rI;refine Sf.bind (bXv es r) fun b r=>?_;split
 . refine Sf.tail ?_;generalize r.tail=r;split
   . split;· exact Sf.cons (Sf.bind (sf_need _ _) fun _ _=>Sf.ok _ _)
     . exact Sf.bad _
   . exact Sf.bad _
 . exact Sf.ok _ _
theorem sf_decl(es:List En)(r:List Tk):Sf r (fK es r):=by
 unfold fK;repeat (first|with_reducible exact Sf.ok _ _|with_reducible exact Sf.okt _ _|with_reducible exact Sf.bad _|with_reducible exact sf_need _ _|with_reducible exact sf_name _|with_reducible exact sf_high _|(first|with_reducible exact sf_ty _ _|with_reducible exact sf_when _)|with_reducible refine Sf.bind ?_ fun _ _=>?_|split|(with_reducible refine Sf.tail ?_;first|with_reducible exact sf_need _ _|with_reducible exact sf_name _|with_reducible exact sf_high _|(first|with_reducible exact sf_ty _ _|with_reducible exact sf_when _)))
theorem sf_decls(es:List En)(last:Bool):∀f acc r,Sf r (kB es last f acc r)
 |0,acc,r=>Sf.ok _ _
 |f+1,acc,r=>by
  rw[kB];repeat (first|with_reducible exact Sf.ok _ _|with_reducible exact Sf.okt _ _|with_reducible exact Sf.bad _|with_reducible exact sf_need _ _|with_reducible exact sf_name _|with_reducible exact sf_high _|(first|with_reducible exact sf_decl _ _|exact sf_decls es last _ _ _)|with_reducible refine Sf.bind ?_ fun _ _=>?_|split|(with_reducible refine Sf.tail ?_;first|with_reducible exact sf_need _ _|with_reducible exact sf_name _|with_reducible exact sf_high _|(first|with_reducible exact sf_decl _ _|exact sf_decls es last _ _ _)))
theorem bBh(es:List En)(r:List Tk):Sf r (vL es r):=by
 unfold vL;exact bGr
theorem aZ4(es:List En)(r:List Tk):Sf r (uZ es r):=by
 unfold uZ;exact bGr
def Sq{α:Type}(r0:List Tk)(x:QR α):Prop:=match x with
 |.ok _ r=>r <:+r0
 |.bad r _=>r <:+r0
theorem Sq.ok{α:Type}(a:α)(r:List Tk):Sq r (QR.ok a r):=List.suffix_refl r
theorem Sq.okt{α:Type}(a:α)(r:List Tk):Sq r (QR.ok a r.tail):=List.tail_suffix r
theorem Sq.bad{α:Type}(r:List Tk)(e:Int):Sq r (QR.bad r e:QR α):=List.suffix_refl r
theorem Sq.tr{α:Type}{r r0:List Tk}{x:QR α}(h:Sq r x)(hs:r <:+r0):Sq r0 x:=by
 exact bDk
theorem Sq.tail{α:Type}{r:List Tk}{x:QR α}(h:Sq r.tail x):Sq r x:=h.tr (List.tail_suffix r)
theorem Sq.bind{α β:Type}{r0:List Tk}{x:QR α}{f:α->List Tk->QR β}(h:Sq r0 x)(g:∀a r,Sq r (f a r)):Sq r0 (x.bind f):=by
 cases x with
 |ok a r=>exact(g a r).tr h
 |bad r e=>exact h
theorem Sq.q{α:Type}{r0:List Tk}{x:PR α}(h:Sf r0 x):Sq r0 x.q:=by
 cases x with
 |ok a r=>exact h
 |bad r=>exact h
theorem aZ5(r:List Tk):Sq r (qT r):=by
 have h:=(aCy 10000).ar r;unfold qT;split
 . rename_i q hq;rw[hq]at h;exact h
 . rename_i x q hq;rw[hq]at h;split;· exact Sq.bad _ _
   . split;· exact Sq.bad _ _
     . exact h
theorem aQt(r:List Tk):Sq r (nA r):=by
 unfold nA;exact(Sq.q (sf_name _)).bind fun _ _=>(Sq.q (sf_commas sf_name _ _ _)).bind fun _ _=>(Sq.q (sf_need _ _)).bind fun _ _=>(aZ5 _).bind fun _ _=>(Sq.q (sf_need _ _)).bind fun _ _=>Sq.ok _ _
theorem bBi:∀(g:Nat)(acc:List Qn)(r:List Tk),Sq r (rE g acc r)
 |0,acc,r=>Sq.ok _ _
 |g+1,acc,r=>by
  rw[rE];split;· exact Sq.okt _ _
  . exact(aQt r).bind fun _ _=>bBi g _ _
theorem bXw(es:List En)(r:List Tk):Sq r (mV es r):=by
 unfold mV;exact(Sq.q (sf_name _)).bind fun _ _=>(Sq.q (sf_need _ _)).bind fun _ _=>(Sq.q (bBh _ _)).bind fun _ _=>(Sq.q (sf_need _ _)).bind fun _ _=>(Sq.q (sf_need _ _)).bind fun _ _=>(Sq.q (sf_decls _ _ _ _ _)).bind fun _ _=>(Sq.q (sf_need _ _)).bind fun _ _=>(Sq.q (aZ4 _ _)).bind fun _ _=>(Sq.q (sf_need _ _)).bind fun _ _=>(bBi _ _ _).bind fun _ _=>Sq.ok _ _
theorem aX6:∀(g:Nat)(acc:List En)(r:List Tk),Sq r (qM g acc r)
 |0,acc,r=>Sq.ok _ _
 |g+1,acc,r=>by
  rw[qM];split;· exact Sq.tail ((Sq.q (aZ3 _)).bind fun _ _=>aX6 g _ _)
  . exact Sq.ok _ _
def fS{α:Type}(n:Nat)(x:PR α):Prop:=match x with
 |.ok _ r=>aU r/\r.length<=n
 |.bad q=>aU q
section
variable {α β:Type}{n m:Nat}{r:List Tk}
theorem fS.ok{a:α}(h:aU r)(hn:r.length<=n):fS n (PR.ok a r):=⟨h,hn⟩
theorem fS.bad(h:aU r):fS n (PR.bad r:PR α):=h
theorem fS.bind{x:PR α}{f:α->List Tk->PR β}(h:fS n x)(g:∀a r,x=.ok a r->aU r->r.length<=n->fS m (f a r)):fS m (x.bind f):=by
 cases x with
 |ok a r=>exact g a r rfl h.1 h.2
 |bad r=>exact h
theorem fS.mono{x:PR α}(h:fS n x)(hm:n<=m):fS m x:=by
 cases x with
 |ok a r=>exact⟨h.1,Yr h.2 hm⟩
 |bad r=>exact h
theorem lR{s:LU}(h:aU r)(hn:r.length<=n+1):fS n (aR s r):=by
 cases e:aR s r with
 |ok u r1=>have:=oI h e;exact⟨this.1,by omega⟩
 |bad q=>exact aXs h e
theorem wB(h:aU r)(hn:r.length<=n+1):fS n (bT r):=by
 cases e:bT r with
 |ok u r1=>have:=tC h e;exact⟨this.1,by omega⟩
 |bad q=>exact aXt h e
theorem aZ6(h:aU r)(hn:r.length<=n+1):fS n (dU r):=by
 have hb:=aZs h;cases e:dU r with
 |ok u r1=>have:=aIa h e;exact⟨this.1,by omega⟩
 |bad q=>rw[e]at hb;exact hb
theorem aZ7(h:aU r)(hn:r.length<=n+1):fS n (kT r):=by
 unfold kT;split
 . rename_i t q;split
   . rename_i hk;exact⟨h.tail aA,by simp only[Yq]at hn;omega⟩
   . exact h
 . exact h
theorem aMy{one:List Tk->PR (List UInt8)}(ho:∀r n,aU r->r.length<=n+1->fS n (one r)):∀f acc r n,aU r->r.length<=n->fS n (gB one f acc r)
 |0,acc,r,n,h,hn=>⟨h,hn⟩
 |f+1,acc,r,n,h,hn=>by
  rw[gB];split
  . rename_i hi;obtain⟨h1,h2⟩:=dE h hi;exact(ho r.tail (n-1) h1 aA).bind fun a q _ hq hl=>aMy ho f _ q n hq aA
  . exact⟨h,hn⟩
theorem bXx(h:aU r)(hn:r.length<=n+1):fS n (lI r):=by
 unfold lI;refine(wB (n:=n) h hn).bind fun a r _ h hl=>?_;refine(lR (n:=n) h aA).bind fun a r _ h hl=>?_;refine(aZ7 (n:=n) h aA).bind fun a r _ h hl=>?_;refine(aMy (fun r n h hl=>aZ7 h hl) _ _ _ n h aA).bind fun a r _ h hl=>?_;refine(lR (n:=n) h aA).bind fun a r _ h hl=>?_;exact(lR (n:=n) h aA).bind fun a r _ h hl=>⟨h,hl⟩
theorem bXy(es:List En)(h:aU r)(hn:r.length<=n+1):fS n (wQ es r):=by
 unfold wQ;split;· exact aP8
 . split;· exact aP8
   . split
     . split;· exact(wB (n:=n) h hn).bind fun a r _ h hl=>⟨h,hl⟩
       . exact h
     . exact h
theorem cC2(es:List En)(h:aU r)(hn:r.length<=n+1):fS n (rI es r):=by
 unfold rI;refine(bXy (n:=n) es h hn).bind fun a r _ h hl=>?_;split
 . rename_i hi;obtain⟨h1,h2⟩:=dE h hi;generalize r.tail=q at *;split
   . split
     . rename_i t q hk;simp only[Yq]at h2;exact(lR (n:=n) (h1.tail aA) aA).bind fun a r _ h hl=>⟨h,hl⟩
     . exact h1
   . exact h1
 . exact⟨h,hl⟩
theorem aCe(es:List En)(h:aU r)(hn:r.length<=n+1):fS n (fK es r):=by
 unfold fK;refine(wB (n:=n) h hn).bind fun a r _ h hl=>?_;refine(lR (n:=n) h aA).bind fun a r _ h hl=>?_;refine(cC2 (n:=n) es h aA).bind fun a r _ h hl=>?_;split
 . rename_i hi;obtain⟨h1,h2⟩:=dE h hi;exact(aZ6 (n:=n) h1 aA).bind fun a r _ h hl=>⟨h,hl⟩
 . exact⟨h,hl⟩
end
def rJ{α:Type}(n:Nat)(x:QR α):Prop:=match x with
 |.ok _ r=>aU r/\r.length<=n
 |.bad q _=>aU q
section
variable {α β:Type}{n m:Nat}{r:List Tk}
theorem rJ.bind{x:QR α}{f:α->List Tk->QR β}(h:rJ n x)(g:∀a r,x=.ok a r->aU r->r.length<=n->rJ m (f a r)):rJ m (x.bind f):=by
 cases x with
 |ok a r=>exact g a r rfl h.1 h.2
 |bad r e=>exact h
theorem fS.q{x:PR α}(h:fS n x):rJ n x.q:=by
 cases x with
 |ok a r=>exact h
 |bad r=>exact h
def TkG(r:List Tk):Prop:=TE 7000 r/\(∀t∈r,iW t)/\r.length<=10000
theorem TkG.end_(h:TkG r):aU r:=h.1.2
theorem TkG.suf{r':List Tk}(h:TkG r)(hs:r' <:+r)(he:aU r'):TkG r':=⟨⟨fun t ht=>h.1.1 t (hs.subset ht),he⟩,fun t ht=>h.2.1 t (hs.subset ht),Yr hs.length_le h.2.2⟩
theorem cA6{N:Nat}{x:Ex}{r1:List Tk}(h:aU r)(hN:r.length<=N)(hp:(aV N).ar r=.ok x r1):aU r1/\r1.length<r.length:=by
 obtain⟨k,hk⟩:=aG4 (r:=r) (n:=N) h hN;obtain⟨o,ho⟩:=aHt hk;rw[hp]at ho;obtain⟨_,_,he,hl,_⟩:=ho;exact⟨he,hl⟩
theorem aZ8(h:TkG r)(hn:r.length<=n+1):rJ n (qT r):=by
 unfold qT;split
 . rename_i q hq;exact bT0 (M:=7000) aF h.1 h.2.2 hq
 . rename_i x q hq
   have:=cA6 h.end_ h.2.2 hq
   split;· exact h.end_
   . split;· exact h.end_
     . exact⟨this.1,by omega⟩
theorem aKg(h:TkG r)(hn:r.length<=n+1):rJ n (nA r):=by
 unfold nA;have s1:=sf_name r;refine(wB (n:=n) h.end_ hn).q.bind fun a r1 e1 h1 hl=>?_;cases e:bT r with
 |bad q=>rw[e]at e1;cases e1
 |ok a2 r2=>
 rw[e]at e1 s1;injection e1 with _ e1;subst e1;have h1:=h.suf s1 h1;have s2:=sf_commas sf_name r2.length [aB a] r2;refine(aMy (fun r n h hl=>wB h hl) _ _ _ n h1.end_ aA).q.bind fun l r3 e3 h3 Aq=>?_;cases e4:gB bT r2.length [aB a] r2 with
 |bad q=>rw[e4]at e3;cases e3
 |ok a2 r4=>
 rw[e4]at e3 s2;injection e3 with _ e3;subst e3;have h3:=h1.suf s2 h3;have s5:=sf_need [61] r4;refine(lR (n:=n) h3.end_ aA).q.bind fun l r5 e5 h5 Ae=>?_;cases e6:aR [61] r4 with
 |bad q=>rw[e6]at e5;cases e5
 |ok a2 r6=>
 rw[e6]at e5 s5;injection e5 with _ e5;subst e5;have h5:=h3.suf s5 h5;refine(aZ8 (n:=n) h5 aA).bind fun l r7 e7 h7 Bs=>?_;exact(lR (n:=n) h7 aA).q.bind fun l r8 e8 h8 Aa=>⟨h8,Aa⟩
end
section
variable {τ:Type}
def dN(s:LU)(t:τ)(r:List Tk):QR τ:=(aR s r).q.bind fun _ r=>.ok t r
def eV:List (τ->List Tk->QR τ)->τ->List Tk->QR τ
 |[],t,r=>.ok t r
 |F::Fs,t,r=>(F t r).bind fun t r=>eV Fs t r
def lX(F:τ->List Tk->QR τ)(s:LU):Nat->τ->List Tk->QR τ
 |0,t,r=>F t r
 |f+1,t,r=>(F t r).bind fun t r=>if aG s r=true then lX F s f t r.tail else .ok t r
def fG(F:τ->List Tk->QR τ)(s:LU)(b:Bool):Nat->τ->List Tk->QR τ
 |0,t,r=>.ok t r
 |f+1,t,r=>if aG s r=b then(F t r).bind fun t r=>fG F s b f t r else .ok t r
def aCf(F:τ->List Tk->QR τ)(s:LU)(t:τ)(r:List Tk):QR τ:=if aG s r=true then .ok t r else F t r
def pU(F:τ->List Tk->QR τ):Prop:=∀t r t' r',TkG r->F t r=.ok t' r'->r'.length<r.length
end
section
variable {τ:Type}
theorem mP{α β:Type}(x:PR α)(f:α->List Tk->PR β):(x.bind f).q=x.q.bind fun a r=>(f a r).q:=aPg
theorem dV{α β γ:Type}(x:QR α)(f:α->List Tk->QR β)(g:β->List Tk->QR γ):(x.bind f).bind g=x.bind fun a r=>(f a r).bind g:=aPg
theorem QR.congr{α β:Type}{x:QR α}{f g:α->List Tk->QR β}(h:∀a r,x=.ok a r->f a r=g a r):x.bind f=x.bind g:=by
 cases x with
 |ok a r=>exact h a r rfl
 |bad r e=>rfl
theorem PR.ofq{α:Type}{x:PR α}{a:α}{r:List Tk}(h:x.q=.ok a r):x=.ok a r:=by
 cases x with
 |ok a r=>injection h with h1 h2;rw[h1,h2]
 |bad r=>cases h
theorem aV4{one:List Tk->PR (List UInt8)}(ho:∀r n,aU r->r.length<=n+1->fS n (one r)):∀f g acc r,aU r->r.length<=f->r.length<=g->gB one f acc r=gB one g acc r
 |0,g,acc,r,he,hf,hg=>by have:=endR_pos0 he;omega
 |f+1,0,acc,r,he,hf,hg=>by have:=endR_pos0 he;omega
 |f+1,g+1,acc,r,he,hf,hg=>by
  rw[gB,gB];split
  . rename_i hi;obtain⟨h1,h2⟩:=dE he hi;have h3:=ho r.tail (r.tail.length-1) h1 (by have:=endR_pos0 h1;omega);cases e:one r.tail with
    |bad q=>rfl
    |ok y q=>
     rw[e]at h3;show gB one f _ q=gB one g _ q;exact aV4 ho f g _ q h3.1 (by have:=h3.2;omega) (by have:=h3.2;omega)
  . rfl
where
 endR_pos0 {r:List Tk}(h:aU r):1<=r.length:=by
  obtain⟨q,z,rfl,_⟩:=h;simp
theorem rO{r:List Tk}(h:aU r):1<=r.length:=by
 obtain⟨q,z,rfl,_⟩:=h;simp
theorem aLv{one:List Tk->PR (List UInt8)}(ho:∀r n,aU r->r.length<=n+1->fS n (one r))(up:ByteArray->τ->τ)(Aa:List ByteArray->τ)(hu:∀l s,up s (Aa l)=Aa (l++[s])):
 ∀f acc r,aU r->r.length<=f->lX (fun t r=>(one r).q.bind fun s r=>.ok (up (aB s) t) r) [44] f (Aa acc) r =
  (one r).q.bind fun s r=>(gB one r.length (acc++[aB s]) r).q.bind fun l r=>.ok (Aa l) r
 |0,acc,r,he,hf=>by have:=rO he;omega
 |f+1,acc,r,he,hf=>by
  rw[lX,dV];refine QR.congr fun s q e=>?_;have h3:=ho r (r.length-1) he aA;rw[PR.ofq e]at h3;obtain⟨hq,hl⟩:=h3;have hp:=rO he;have Aq:=rO hq;show(if aG [44] q=true then _ else _)=_;obtain⟨m,hm⟩:∃m,q.length=m+1:=⟨q.length-1,by omega⟩;rw[hm,gB,hu];split
  . rename_i hi;obtain⟨h1,h2⟩:=dE hq hi;rw[aLv ho up Aa hu f _ _ h1 aA,mP,dV];refine QR.congr fun y z e2=>?_;have h4:=ho q.tail m h1 aA;rw[PR.ofq e2]at h4;have h5:=ho q.tail (q.tail.length-1) h1 aA;rw[PR.ofq e2]at h5;have Ae:=rO h1;rw[aV4 ho z.length m _ z h4.1 (Yh _) (by have:=h5.2;omega)]
  . rfl
theorem bK0{r:List Tk}(he:aU r)(ht:∀t∈r,iW t):oZ false r=aG [59] r:=by
 obtain⟨t,q,rfl⟩:=he.cons_;rw[aNc (ht t Zc) aF];simp[oZ]
theorem aUg(es:List En)(last:Bool):∀f g acc r,aU r->r.length<=f->r.length<=g->kB es last f acc r=kB es last g acc r
 |0,g,acc,r,he,hf,hg=>by have:=rO he;omega
 |f+1,0,acc,r,he,hf,hg=>by have:=rO he;omega
 |f+1,g+1,acc,r,he,hf,hg=>by
  rw[kB,kB];have h3:=aCe es (n:=r.length-1) he aA;have hp:=rO he;cases e:fK es r with
  |bad q=>rfl
  |ok y q=>
   rw[e]at h3;show(if oZ last q=true then _ else _)=(if oZ last q=true then _ else _);split
   . rename_i hm;obtain⟨t,z,rfl⟩:=h3.1.cons_;simp only[oZ,Yu,beq_iff_eq]at hm;have hk:t.k=5:=hm.1.1;have h4:=h3.2;simp only[Yq]at h4;exact aUg es last f g _ z (h3.1.tail aA) aA aA
   . rfl
theorem aUh(es:List En)(up:Dc->τ->τ)(Aa:List Dc->τ)(hu:∀l d,up d (Aa l)=Aa (l++[d])):
 ∀f acc r,TkG r->r.length<=f->lX (fun t r=>(fK es r).q.bind fun d r=>.ok (up d t) r) [59] f (Aa acc) r =
  (kB es false r.length acc r).q.bind fun l r=>.ok (Aa l) r
 |0,acc,r,he,hf=>by have:=rO he.end_;omega
 |f+1,acc,r,he,hf=>by
  have hp:=rO he.end_;obtain⟨m,hm⟩:∃m,r.length=m+1:=⟨r.length-1,by omega⟩;rw[lX,dV,hm,kB,mP,dV];refine QR.congr fun d q e=>?_;have h3:=aCe es (n:=m) he.end_ aA;have h4:=sf_decl es r;rw[PR.ofq e]at h3 h4;have hg:=he.suf h4 h3.1;rw[bK0 hg.end_ hg.2.1];show(if aG [59] q=true then _ else _)=_;rw[hu];split
  . rename_i hi;obtain⟨h1,h2⟩:=dE hg.end_ hi;have hl:=h3.2;have hg2:=hg.suf (List.tail_suffix q) h1;rw[aUh es up Aa hu f _ _ hg2 aA,aUg es false q.tail.length m _ _ h1 (Yh _) aA]
  . rfl
end
end Go.Proofs.YtagkcjpoipcpkaaGreatDoor
