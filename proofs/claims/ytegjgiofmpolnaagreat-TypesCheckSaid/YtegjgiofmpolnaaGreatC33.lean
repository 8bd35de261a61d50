/- Parts of the proof: TrM, TrA. Conditions: each theorem's own. -/
import Derived.Test.YtegjgiofmpolnaaGreatC14
import Derived.Test.YtegjgiofmpolnaaGreatC21
import Derived.Test.YtegjgiofmpolnaaGreatC24
namespace Go.Proofs.YtegjgiofmpolnaaGreat
set_option linter.unusedVariables false
set_option linter.unusedSimpArgs false
set_option maxRecDepth 100000
set_option maxHeartbeats 40000000
section
def dV(t:T3) (l:List T3):Bool:=l.all fun u=>decide (u=t)
theorem aLb(l:List T3):dH l=dV (aB l 0) l:=rfl
theorem nZ(t u:T3):dV t [u]=decide (u=t):=by simp [dV]
theorem aEw{t:T3}{l:List T3}{i:Nat}(h:i<l.length) (hn:¬ aB l i=t):dV t l=false:=by
 unfold dV;rw [List.all_eq_false];exact⟨_,Zg h,by rw [<- oD h];simpa using hn⟩
theorem aN6{t:T3}{l:List T3}(h:∀ j,j<l.length->aB l j=t):dV t l=true:=by
 unfold dV;rw [Zf];intro u hu;obtain⟨j,hj,rfl⟩:=Zi hu;rw [<- oD hj]
 simpa using h j hj
theorem vA{α:Type}:∀ {l:List α},l.length=2->∃ a b,l=[a,b]
 | [a,b],_=>⟨a,b,rfl⟩
 | [],h=>by simp at h
 | [a],h=>by simp at h
 | a::b::c::l,h=>by simp at h
theorem wW{α:Type}:∀ (l:List (Option α)) (o:Option α),bK (l++[o])=match bK l with | none=>none | some ts=>o.map fun a=>ts++[a]
 | [],o=>by cases o <;> rfl
 | none::l,o=>rfl
 | some a::l,o=>by
  simp only [Yv,bK,wW l o]
  cases bK l with
  | none=>rfl
  | some ts=>cases o <;> rfl
def oN(rs:List (T3 × Int)):Option (List Int × T3):=if dH (rs.map (·.1))=true then some (rs.map (·.2),aB (rs.map (·.1)) 0) else none
def mK(es:List En) (l:List Ex):Option (List Int × T3):=match bK (l.map (dF es)) with | none=>none | some rs=>oN rs
theorem aDv{ts:List T3}{t:T3}(h:0<ts.length):aB (ts++[t]) 0=aB ts 0:=by
 unfold aB;rw [List.getElem?_append_left h]
theorem aLc{ts:List T3}{t:T3}(h:0<ts.length):dH (ts++[t])=(dH ts && decide (t=aB ts 0)):=by
 unfold dH;rw [List.all_append,aDv h]
 simp
theorem aDw(es:List En) (l:List Ex):∀ k,k<=l.length->gJ es l k=mK es (l.take k)
 | 0,_=>rfl
 | k+1,hk=>by
  have ih:=aDw es l k (by omega)
  have hx:l.take (k+1)=l.take k++[l[k]?.getD default]:=by
   rw [List.take_succ_eq_append_getElem (by omega),Yk (by omega)];rfl
  rw [gJ,ih,hx];unfold mK;rw [Zp,Xg,List.map_nil,wW]
  cases hs:bK ((l.take k).map (dF es)) with
  | none=>rfl
  | some rs=>
   have hl:rs.length=k:=by
    have:=oZ hs;rw [List.length_map,List.length_take] at this;omega
   cases ht:dF es (l[k]?.getD default) with
   | none=>
    simp only [Option.map_none];unfold oN
    split <;> rfl
   | some t=>
    simp only [Option.map_some];unfold oN;rw [Zp,Zp];simp only [Xg,List.map_nil]
    by_cases h0:k=0
    . subst h0;obtain rfl:rs=[]:=List.length_eq_zero_iff.1 hl
      simp [dH,aB]
    . have hp:0<(rs.map (·.1)).length:=by rw [List.length_map];omega
      rw [aLc hp,aDv hp]
      cases ha:dH (rs.map (·.1)) with
      | false=>simp
      | true=>
       simp only [if_true,Bool.true_and]
       by_cases he:t.1=aB (rs.map (·.1)) 0
       . rw [if_neg (by simp [he]),if_pos (by simp [he]),he]
       . rw [if_pos ⟨by omega,he⟩,if_neg (by simpa using he)]
theorem aN7(es:List En) (x:Ex):mK es [x]=(dF es x).map fun r=>([r.2],r.1):=by
 unfold mK;simp only [Xg,List.map_nil]
 cases dF es x with
 | none=>rfl
 | some r=>simp [bK,oN,dH,aB]
theorem xN(es:List En) (l:List Ex):gJ es l l.length=mK es l:=by
 have:=aDw es l l.length (Yh _);rwa [List.take_length] at this
theorem aIy{l:List Ex}{x:Ex}(h:x∈l):gF x<=fT l:=by
 induction l with
 | nil=>cases h
 | cons y l ih=>
  simp only [fT];rcases Yu.1 h with rfl | h
  . omega
  . have:=ih h;omega
theorem aCr{x:Ex}(h:bB x=true){k:Nat}(hk:k<x.subs.length):bB (aU x k)=true:=by
 unfold bB at h ⊢;simp only [Ys,Bool.not_eq_true',decide_eq_false_iff_not,Zf] at h ⊢;have hm:=qE hk;refine⟨⟨?_,?_⟩,fun p hp=>h.2 p ?_⟩
 . have:=qD hm;omega
 . have:=aIy hm;have h2:=rI x;omega
 . rw [pZ];exact List.mem_cons_of_mem _ (wD hk hp)
theorem aLd{x y:Ex}(h:bB x=true) (hy:y∈x.subs):bB y=true:=by
 obtain⟨k,hk,rfl⟩:=Zi hy;have:=aCr h hk;unfold aU at this;rwa [Yk hk] at this
theorem aQy{es:List En}{x:Ex}{r:T3 × Int}(h:dF es x=some r):r.1.2.2=0:=by
 unfold dF at h
 split at h
 . injection h with h;subst h;rfl
 split at h
 . injection h with h;subst h;rfl
 split at h
 . injection h with h;subst h;rfl
 obtain⟨q,_,rfl⟩:=Option.map_eq_some_iff.1 h;rfl
theorem aDx{p:Pg}{i:Nat}{x:Ex}(hr:bB x=true) (hl:cK x=true) (hk:x.k=1\/x.k=2\/x.k=4):cG p i x=(dF p.es x).map (·.1):=by
 rw [kK,<- rN hk]
 have hc:dC x=true:=by
  unfold dC;rw [if_neg (by rcases hk with hk | hk | hk <;> (rw [hk];decide))];exact hl
 rw [tE (by rw [hr,hc];rfl) (by rcases hk with hk | hk | hk <;> (rw [hk];decide))]
 cases dF p.es x <;> rfl
theorem aEx{p:Pg}{i:Nat}{x:Ex}(hr:bB x=true) (hl:cK x=true){r:T3 × Int}(h:dF p.es x=some r):cG p i x=some r.1:=by
 by_cases h5:x.k=5
 . have Aa:=hl;unfold cK at Aa;rw [if_pos (by rw [h5];rfl)] at Aa;simp only [Ys,beq_iff_eq] at Aa;obtain⟨⟨ho,hn⟩,h1⟩:=Aa
   have Ab:cG p i (aU x 0)=some (1,0,0):=by
    rw [aDx (aCr hr (by omega)) (by unfold cK;rw [h1];rfl) (.inl h1)];unfold dF;rw [h1];rfl
   obtain⟨y,hy⟩:∃ y,x.subs=[y]:=List.length_eq_one_iff.1 hn;have hs:aU x 0=y:=by unfold aU;rw [hy];rfl
   rw [hs] at Ab;have hq:bK (x.subs.map (cG p i))=some [(1,0,0)]:=by rw [hy];simp [bK,Ab]
   rw [kK,tL (.inl h5) hq]
   have Ac:r.1=(1,0,0):=by
    unfold dF at h;rw [h5] at h;injection h with h;rw [<- h]
   rw [Ac];unfold fW;rw [h5,ho];rfl
 . have hk:x.k=1\/x.k=2\/x.k=4:=by
    have Aa:=hl;unfold cK at Aa;rw [if_neg (by simpa using h5)] at Aa;simp only [Bool.or_eq_true,beq_iff_eq] at Aa;omega
   rw [aDx hr hl hk,h];rfl
theorem aEy{α β:Type}{f:Ex->Option α}{g:Ex->Option (α × β)}:∀ {l:List Ex}{rs:List (α × β)},(∀ x∈l,∀ r,g x=some r->f x=some r.1)->bK (l.map g)=some rs->bK (l.map f)=some (rs.map (·.1))
 | [],rs,_,h=>by injection h with h;subst h;rfl
 | x::l,rs,hx,h=>by
  simp only [Xg] at h ⊢
  cases hg:g x with
  | none=>rw [hg] at h;cases h
  | some r=>
   rw [hg] at h;simp only [bK,Option.map_eq_some_iff] at h;obtain⟨t,h1,rfl⟩:=h;rw [hx x (by simp) r hg];simp only [bK];rw [aEy (fun y hy=>hx y (by simp [hy])) h1];rfl
theorem aEz{β:Type}{g:Ex->Option β}{P:β->Prop}:∀ {l:List Ex}{rs:List β},(∀ x∈l,∀ r,g x=some r->P r)->bK (l.map g)=some rs->∀ r∈rs,P r
 | [],rs,_,h=>by injection h with h;subst h;intro r hr;cases hr
 | x::l,rs,hx,h=>by
  simp only [Xg] at h
  cases hg:g x with
  | none=>rw [hg] at h;cases h
  | some r=>
   rw [hg] at h;simp only [bK,Option.map_eq_some_iff] at h;obtain⟨t,h1,rfl⟩:=h;intro q hq;rcases Yu.1 hq with rfl | hq
   . exact hx x (by simp) q hg
   . exact aEz (fun y hy=>hx y (by simp [hy])) h1 q hq
theorem aLe{p:Pg}{i:Nat}{x:Ex}{c:List Int × T3}(h:dL p.es x=some c):cG p i x=some c.2:=by
 cases Ab:(bB x && dC x) with
 | false=>rw [wU Ab] at h;cases h
 | true=>
  have Aa:=Ab;simp only [Ys] at Aa
  by_cases hk:x.k=14
  . rw [wC Ab hk] at h;obtain⟨r,hr,rfl⟩:=Option.map_eq_some_iff.1 h;rw [xN] at hr;unfold mK at hr
    cases hs:bK (x.subs.map (dF p.es)) with
    | none=>rw [hs] at hr;cases hr
    | some rs=>
     rw [hs] at hr;simp only at hr;unfold oN at hr
     split at hr
     . rename_i ha
       injection hr with hr;subst hr
       have Ac:x.subs.all cK=true:=by
        have:=Aa.2;unfold dC at this;rwa [if_pos (by rw [hk];rfl)] at this
       have hq:=aEy (f:=cG p i) (fun y hy r hg=>aEx (aLd Aa.1 hy) (Zf.1 Ac y hy) hg) hs
       have hz:(aB (rs.map (·.1)) 0).2.2=0:=by
        cases rs with
        | nil=>rfl
        | cons r rs=>exact aEz (P:=fun r=>r.1.2.2=0) (fun y hy r hg=>aQy hg) hs r (by simp)
       have Ad:(rs.map (·.1)).length=x.subs.length:=by
        have:=oZ hq
        simpa using this
       rw [kK,tL (.inr (.inr (.inr (.inl hk)))) hq];unfold fW;rw [hk]
       show(if(dH (rs.map (·.1)) && decide ((aB (rs.map (·.1)) 0).2.2=0))=true then some ((aB (rs.map (·.1)) 0).1,(aB (rs.map (·.1)) 0).2.1,((rs.map (·.1)).length:Int)) else none)=_
       rw [if_pos (by rw [ha,hz];rfl),Ad]
     . cases hr
  . rw [tE Ab hk] at h;obtain⟨r,hr,rfl⟩:=Option.map_eq_some_iff.1 h
    have hl:cK x=true:=by
     have:=Aa.2;unfold dC at this;rwa [if_neg (by simpa using hk)] at this
    exact aEx Aa.1 hl hr
def vL(oc:Option (List Int × T3)) (l:List T3):Option T3:=match oc with | none=>none | some c=>if aB l 1=c.2 then some (aB l 1) else none
theorem aSn{p:Pg}{i:Nat}{x:Ex}(hk:x.k=8) (hl:x.subs.length=2):cG p i x=match bK (x.subs.map (cG p i)) with | none=>none | some l=>vL (dL p.es (aU x 0)) l:=by
 obtain⟨a,b,Aa⟩:∃ a b,x.subs=[a,b]:=vA hl;have h0:aU x 0=a:=by unfold aU;rw [Aa];rfl
 rw [kK,aEt hk,h0,Aa];simp only [Xg,List.map_nil]
 show rC (dL p.es a) (cG p i b)=_
 cases hc:dL p.es a with
 | none=>
  unfold rC;simp only
  split <;> rfl
 | some c=>
  rw [aLe hc]
  cases cG p i b with
  | none=>rfl
  | some u=>
   show(if c.2=u then some u else none)=(if aB [c.2,u] 1=c.2 then some (aB [c.2,u] 1) else none)
   show _=(if u=c.2 then some u else none)
   by_cases he:c.2=u
   . rw [if_pos he,if_pos he.symm]
   . rw [if_neg he,if_neg fun e=>he e.symm]
def fR(n:Nd) (s:ByteArray) (t:T3):Bool:=match aW n s with | none=>false | some d=>decide (aO d=t)
def gO(es:List En) (n:Nd) (s a:ByteArray):Bool:=match cU es a with | none=>false | some r=>fR n s (r.1,r.2.1,0)
def eR(es:List En) (n:Nd) (s:ByteArray) (arms:List ByteArray):Bool:=arms.all (gO es n s)
def kQ:ByteArray:=⟨#[116,114,117,101]⟩
def kN:ByteArray:=⟨#[102,97,108,115,101]⟩
def pF(es:List En) (n:Nd) (s:ByteArray) (arms:List ByteArray):Bool:=
 eR es n s arms && (if((fZ (aW n s)).1==2)=true then dP arms [kQ,kN] else dP arms (bT es (fZ (aW n s)).2.1.toNat))
theorem aLf{es:List En}{a:ByteArray}{r:Int × Int × Int}(h:cU es a=some r):(r.1=2/\r.2.1=0)\/r.1=3:=by
 unfold cU at h
 split at h
 . injection h with h;subst h;exact .inl ⟨rfl,rfl⟩
 split at h
 . injection h with h;subst h;exact .inl ⟨rfl,rfl⟩
 obtain⟨q,_,rfl⟩:=Option.map_eq_some_iff.1 h;exact .inr rfl
theorem aE0{es:List En}{n:Nd}{s a:ByteArray}{d:Dc}(hd:aW n s=some d) (h:gO es n s a=true):aO d=(2,0,0)\/(aO d).1=3/\(aO d).2.2=0:=by
 unfold gO at h
 cases hr:cU es a with
 | none=>rw [hr] at h;cases h
 | some r=>
  rw [hr] at h;simp only at h;unfold fR at h;rw [hd] at h;have h:=of_decide_eq_true h;rcases aLf hr with⟨h1,h2⟩ | h1
  . exact .inl (by rw [h,h1,h2])
  . exact .inr ⟨by rw [h,h1],by rw [h]⟩
theorem aCs{arms:List ByteArray}:dP arms [kQ,kN]=(decide (arms.length=2) && (((arms[0]?.getD ByteArray.empty).toList==[116,114,117,101]) && ((arms[1]?.getD ByteArray.empty).toList==[102,97,108,115,101]))):=by
 have ht:kQ.toList=[116,114,117,101]:=by rw [Zc];rfl
 have hf:kN.toList=[102,97,108,115,101]:=by rw [Zc];rfl
 unfold dP;rw [Zm];simp only [Xg,List.map_nil,decide_eq_true_eq,Ys,beq_iff_eq,ht,hf]
 constructor
 . intro h;have hl:arms.length=2:=by simpa using congrArg List.length h
   obtain⟨a,b,rfl⟩:=vA hl;simp only [Xg,List.map_nil,List.cons.injEq] at h;exact⟨rfl,h.1,h.2.1⟩
 . rintro ⟨hl,h1,h2⟩;obtain⟨a,b,rfl⟩:=vA hl;simp only [Xg,List.map_nil];rw [show a.toList=_ from h1,show b.toList=_ from h2]
theorem aLg{es:List En}(ha:bP (dQ es)=true){i k:Nat}(hi:i<es.length) (hk:k<(bT es i).length){a:ByteArray}(he:a.toList=(eJ es i k).toList):fN es a=some (i,k,eJ es i k):=by
 have hm:=aC6 hi hk;unfold bP sF at ha;have ha:=of_decide_eq_true ha;unfold dQ at ha;rw [List.map_map] at ha
 cases hf:fN es a with
 | none=>
  unfold fN at hf;have:=List.find?_eq_none.1 hf _ hm;unfold mM at this;rw [he] at this
  simp at this
 | some q=>
  unfold fN at hf;have hq:=List.mem_of_find?_eq_some hf;have hp:=List.find?_some hf;unfold mM at hp;have hp:q.2.2.toList=a.toList:=by simpa using hp
  congr 1
  obtain⟨j,hj,Ab⟩:=Zi hq;obtain⟨m,Ac,Aa⟩:=Zi hm
  have Ad:j=m:=by
   have hl:∀ z,z<(dT es).length->z<((dT es).map ((fun s:ByteArray=>s.data.toList) ∘ fun x:Pl=>x.2.2)).length:=fun z hz=>by rw [List.length_map];exact hz
   refine(List.getElem_inj (h₀:=hl j hj) (h₁:=hl m Ac) ha).1 ?_;rw [List.getElem_map,List.getElem_map,Ab,Aa]
   show q.2.2.data.toList=(eJ es i k).data.toList
   rw [<- Zc,<- Zc,hp,he]
  subst Ad;rw [<- Ab,Aa]
theorem aN8{s:List UInt8}(h:dY s=true):s≠[116,114,117,101]/\s≠[102,97,108,115,101]:=
 ⟨fun e=>by subst e;revert h;decide,fun e=>by subst e;revert h;decide⟩
theorem aQz{es:List En}(he:cV es=0){i k:Nat}(hi:i<es.length) (hk:k<(bT es i).length){a:ByteArray}(ha:a.toList=(eJ es i k).toList):cU es a=some (3,(i:Int),(k:Int)):=by
 unfold cV at he
 split at he
 . cases he
 split at he
 . rename_i hn
   split at he
   . rename_i Aa
     unfold jJ at hn;unfold kL at Aa;simp only [Ys] at hn Aa
     have hh:dY a.toList=true:=by
      have h1:=Zf.1 hn.2 (eJ es i k) (List.mem_map.2 ⟨_,aC6 hi hk,rfl⟩);rw [ha,Zc];exact h1
     obtain⟨n1,n2⟩:=aN8 hh;unfold cU;rw [if_neg (by simpa using n1),if_neg (by simpa using n2),aLg Aa.2 hi hk ha];rfl
   . cases he
 . cases he
theorem aLh{es:List En}{n:Nd}{s:ByteArray}{arms:List ByteArray}(he:cV es=0) (h1:0<arms.length) (Af:∀ d,aW n s=some d->bH es.length d.k d.e d.l=true):
 pF es n s arms=match aW n s with | none=>false | some d=>jK es (aO d) arms:=by
 unfold pF;obtain⟨a0,rest,Aa⟩:∃ a r,arms=a::r:=List.exists_cons_of_length_pos h1
 cases hd:aW n s with
 | none=>
  have:eR es n s arms=false:=by
   rw [Aa];unfold eR;rw [List.all_cons]
   have:gO es n s a0=false:=by
    unfold gO fR;rw [hd]
    split <;> rfl
   rw [this,Bool.false_and]
  rw [this,Bool.false_and]
 | some d=>
  simp only;have Aj:fZ (some d)=aO d:=rfl;rw [Aj];have Ac:=Af d hd;unfold jK
  by_cases ht:aO d=(2,0,0)
  . rw [if_pos (show fD (aO d)=true from Zx ht),ht,<- aCs]
    show(eR es n s arms && dP arms [kQ,kN])=dP arms [kQ,kN]
    cases hs:dP arms [kQ,kN] with
    | false=>rw [Bool.and_false]
    | true=>
     rw [Bool.and_true];rw [aCs] at hs;simp only [Ys,decide_eq_true_eq,beq_iff_eq] at hs;obtain⟨hl,e1,e2⟩:=hs;obtain⟨a,b,rfl⟩:=vA hl;have e1:a.toList=[116,114,117,101]:=e1;have e2:b.toList=[102,97,108,115,101]:=e2
     have k:∀ c:ByteArray,(c.toList=[116,114,117,101]\/c.toList=[102,97,108,115,101])->gO es n s c=true:=fun c hc=>by
      unfold gO cU;rcases hc with hc | hc
      . rw [if_pos (by rw [hc];rfl)];unfold fR;rw [hd];exact Zx ht
      . rw [if_neg (by rw [hc];decide),if_pos (by rw [hc];rfl)];unfold fR;rw [hd];exact Zx ht
     unfold eR;rw [List.all_cons,List.all_cons,List.all_nil,k a (.inl e1),k b (.inr e2)];rfl
  . rw [if_neg (show ¬ fD (aO d)=true from fun h=>ht (of_decide_eq_true h))]
    by_cases hb:(aO d).1=3/\(aO d).2.2=0
    . obtain⟨Ab,Ae⟩:=hb;rw [if_neg (by rw [Ab];decide),Zx Ab,Zx Ae,Bool.true_and,Bool.true_and]
      cases hs:dP arms (bT es (aO d).2.1.toNat) with
      | false=>rw [Bool.and_false]
      | true=>
       rw [Bool.and_true]
       have Ai:0<=d.e/\d.e<es.length:=by
        unfold bH at Ac;have:d.k=3:=Ab;rw [this] at Ac;simp only [Ys,decide_eq_true_eq] at Ac;have h2:=Ac.2;rw [if_neg (by omega)] at h2;have h2:=of_decide_eq_true h2;exact h2.2
       unfold dP at hs;have hs:=of_decide_eq_true hs;unfold eR;rw [Zf];intro a Ad;have Ag:a.toList∈(bT es (aO d).2.1.toNat).map fun s=>s.toList:=by rw [<- hs];exact List.mem_map.2 ⟨a,Ad,rfl⟩
       obtain⟨c,hc,Ah⟩:=List.mem_map.1 Ag;obtain⟨k,hk,rfl⟩:=Zi hc
       have ho:=aQz he (i:=(aO d).2.1.toNat) (k:=k) (by have:(aO d).2.1=d.e:=rfl;omega) hk (a:=a) (by
        rw [<- Ah];unfold eJ;rw [Yk hk];rfl)
       unfold gO;rw [ho];simp only;unfold fR;rw [hd];refine Zx ?_;have e1:d.k=3:=Ab;have e3:d.l=0:=Ae
       show((d.k,d.e,d.l):T3)=(3,((d.e.toNat:Nat):Int),0)
       rw [e1,e3,Int.toNat_of_nonneg Ai.1]
    . have h0:eR es n s arms=false:=by
       rw [Aa];unfold eR;rw [List.all_cons]
       have:gO es n s a0=false:=by
        cases h:gO es n s a0 with
        | false=>rfl
        | true=>
         rcases aE0 hd h with h | h
         . exact absurd h ht
         . exact absurd h hb
       rw [this,Bool.false_and]
      rw [h0,Bool.false_and]
      by_cases Ab:(aO d).1=3
      . have:(aO d).2.2≠0:=fun e=>hb ⟨Ab,e⟩;rw [Zy this,Bool.false_and,Bool.and_false]
      . rw [Zy Ab,Bool.false_and]
def kR(p:Pg) (x:Ex) (ts:List T3):Option Nat:=
 if cQ p x.s<0 then none
 else if(decide (ts.take (ts.length-x.n.toNat)=(aA p (cQ p x.s).toNat).ins.map aO) && dV (2,0,0) (ts.drop (ts.length-x.n.toNat)))=true then some (cQ p x.s).toNat else none
theorem aQ0{ts us:List T3}{m:Nat}(hm:m<=ts.length):ts.take m=us↔us.length=m/\∀ k,k<m->us[k]?.getD (0,0,0)=aB ts k:=by
 constructor
 . rintro rfl;refine⟨by rw [List.length_take];omega,fun k hk=>?_⟩;unfold aB;rw [List.getElem?_take_of_lt hk]
 . rintro ⟨hl,h⟩
   apply List.ext_getElem
   . rw [List.length_take];omega
   . intro k h1 h2;have h3:k<m:=by omega
     have:=h k h3;rw [oD (by omega),Yk h2,Yt] at this;rw [List.getElem_take,this]
theorem aQ1{p:Pg}{x:Ex}{ts:List T3}(hn:x.n=0\/x.n=1) (hl:x.n<=ts.length):kR p x ts=fB p x ts:=by
 unfold kR fB
 by_cases hf:cQ p x.s<0
 . rw [if_pos hf,if_pos hf]
 rw [if_neg hf,if_neg hf];generalize (cQ p x.s).toNat=i
 have Aa:∀ k,((aA p i).ins.map aO)[k]?.getD (0,0,0)=if k<(aA p i).ins.length then aO ((aA p i).ins[k]?.getD default) else(0,0,0):=fun k=>by
  rw [List.getElem?_map]
  by_cases hk:k<(aA p i).ins.length
  . rw [if_pos hk,Yk hk];rfl
  . rw [if_neg hk,List.getElem?_eq_none (by omega)];rfl
 have Ac:∀ m,m<=ts.length->(decide (ts.take m=(aA p i).ins.map aO))=(decide ((aA p i).ins.length=m) && (List.range (aA p i).ins.length).all fun k=>decide (aO ((aA p i).ins[k]?.getD default)=aB ts k)):=fun m hm=>by
  rw [Zm,decide_eq_true_eq,aQ0 hm,Ys,decide_eq_true_eq,Zf,List.length_map]
  constructor
  . rintro ⟨h1,h2⟩;refine⟨h1,fun k hk=>?_⟩;have hk:=List.mem_range.1 hk;have:=h2 k (by omega);rw [Aa,if_pos hk] at this;exact Zx this
  . rintro ⟨h1,h2⟩;refine⟨h1,fun k hk=>?_⟩;rw [Aa,if_pos (by omega)];exact of_decide_eq_true (h2 k (List.mem_range.2 (by omega)))
 have Ab:(decide (ts.take (ts.length-x.n.toNat)=(aA p i).ins.map aO) && dV (2,0,0) (ts.drop (ts.length-x.n.toNat)))=(decide ((ts.length:Int)-x.n=((aA p i).ins.length:Int)) && (!(x.n==1 && !fD (aB ts (ts.length-1))) && (List.range (aA p i).ins.length).all fun k=>decide (aO ((aA p i).ins[k]?.getD default)=aB ts k))):=by
  rw [Ac _ (Nat.sub_le _ _)];generalize ((List.range (aA p i).ins.length).all fun k=>decide (aO ((aA p i).ins[k]?.getD default)=aB ts k))=C;rcases hn with hn | hn
  . rw [hn,show(0:Int).toNat=0 from rfl,Nat.sub_zero,List.drop_length,show((0:Int)==1)=false from rfl,show dV (2,0,0) []=true from rfl]
    have e:decide ((aA p i).ins.length=ts.length)=decide ((ts.length:Int)-0=((aA p i).ins.length:Int)):=by
     rw [Zm,decide_eq_true_eq,decide_eq_true_eq];omega
    rw [e]
    simp
  . have hd:ts.drop (ts.length-1)=[aB ts (ts.length-1)]:=by
     rw [List.drop_eq_getElem_cons (by omega),oD (by omega),List.drop_eq_nil_of_le (by omega)]
    rw [hn,show(1:Int).toNat=1 from rfl,hd,nZ,show((1:Int)==1)=true from rfl]
    have e:decide ((aA p i).ins.length=ts.length-1)=decide ((ts.length:Int)-1=((aA p i).ins.length:Int)):=by
     rw [Zm,decide_eq_true_eq,decide_eq_true_eq];omega
    rw [e];unfold fD
    cases decide ((ts.length:Int)-1=((aA p i).ins.length:Int)) <;> cases C <;> cases decide (aB ts (ts.length-1)=(2,0,0)) <;> rfl
 rw [Ab]
 by_cases hA:(ts.length:Int)-x.n=((aA p i).ins.length:Int)
 . rw [if_neg (show ¬ ¬ _ from fun h=>h hA),Zx hA,Bool.true_and]
   cases (x.n==1 && !fD (aB ts (ts.length-1))) with
   | true=>rfl
   | false=>rfl
 . rw [if_pos hA,Zy hA,Bool.false_and];rfl
end
section
open Go.RowKit Go.Sort Go.BigFrame
theorem qI(k:Int) (w:World):
 Calls Tryz.prog 119 #[.int .i64 k] w fun r w'=>r=.returned (.agg (aC k 0 0))/\Below w.heap.size w w':=by
 unfold aC
 go_enter Tryz.func119,Tryz.ntmps119
 go_wp2_with fail
 exact Zt (uX rfl _ _ w.heap.size k 0 0 rfl (Zw _ _)) rfl ⟨rfl,(Yg _ _).alloc (Yh _) _⟩
theorem gZ(a b c:Int) (so:Bool) (w:World):
 Calls Tryz.prog 118 #[.agg (aC a b c),.bool so] w (aZ w (if so=true then some (a,b,c) else none)):=by
 cases so with
 | false=>
  unfold aZ aC
  go_enter Tryz.func118,Tryz.ntmps118
  go_wp2_with fail
  exact Zt (aL rfl _ _ (w.heap.size+1) 0 0 0 rfl (heap_alloc2_new _ _ _)) rfl ⟨rfl,((Yg _ _).alloc (Yh _) _).alloc (by simp) _⟩
 | true=>
  unfold aZ aC
  go_enter Tryz.func118,Tryz.ntmps118
  go_wp2_with fail
  exact Zt (aL rfl _ _ (w.heap.size+1) a b c rfl (heap_alloc2_new _ _ _)) rfl ⟨rfl,((Yg _ _).alloc (Yh _) _).alloc (by simp) _⟩
theorem aM.lit(w:World) (a b c:Int) (T:TypeId):aM (w.alloc (.cells #[.int .i64 a,.int .i64 b,.int .i64 c] T)) (some ⟨w.heap.size,0,none⟩) 1 [(a,b,c)]:=
 ⟨rfl,by omega,fun _=>⟨_,0,rfl,by simp,fun i hi=>by
  obtain rfl:i=0:=by omega
  intro j v hv;rw [Zo]
  show(#[Value.int .i64 a,.int .i64 b,.int .i64 c]:Array Value)[0+0*3+j]?=some v
  rw [show 0+0*3+j=j by omega]
  simpa [lM] using hv⟩⟩
theorem kS(a b c:Int) (A:Option Addr) (n cp:Nat) (l:List T3) (w:World) (h:aM w A n l):
 Calls Tryz.prog 87 #[.agg (aC a b c),.slice A n cp] w fun e w'=>e=.returned (.bool (dV (a,b,c) l))/\Below w.heap.size w w':=by
 have hl:=h.len;have hm:=h.max;have HR:=Hd h;have As:=Hd fun i hi hn=>aEw (t:=(a,b,c)) (l:=l) (i:=i) hi hn;have Ar:=Hd fun h=>aN6 (t:=(a,b,c)) (l:=l) h;clear h;generalize dV (a,b,c) l=Ay at *;unfold aC
 go_enter Tryz.func87,Tryz.ntmps87
 go_upto_region 1 with(fail)
 generalize Am:w.alloc _=w1;obtain⟨Al,Ah,Au⟩:=gM Am;have Aa:=Hd Al;have Ap:=Hd Ah;clear Am Al Ah Au
 go_wp2_with fail
 go_loopw [9] (fun i wr=>∃ k:Nat,k<=n/\i=.int .i64 k/\(∀ j,j<k->aB l j=(a,b,c))/\Below w1.heap.size w1 wr) (fun i _=>n-(intOf i).toNat)
 case atStart=>exact⟨0,Yq _,rfl,fun j hj=>absurd hj (by omega),Yg _ _⟩
 case round=>
  obtain⟨k,hk,rfl,Ao,Ae⟩:=hrel;have Ak:=Hd Ao;have Aj:=Hd Ae;have HF:=Hd (Ap.o.below Ae);have Af:=Hd (Aa.o.trans (Ae.mono Aa.o.size));clear Ao Ae
  by_cases An:k<n
  . obtain⟨sb,Aw,rfl,Ax,hc⟩:=(HR.o.below Af.o).at_ An;obtain⟨c0,c1,c2⟩:=hc k An;have HN:=Hd (As.o k (by omega));have Ab:=Hd fun(e:aB l k=(a,b,c))=>dK (P:=fun j=>aB l j=(a,b,c)) Ak.o e;clear hc;generalize aB l k=x at c0 c1 c2 HN Ab;obtain⟨x0,x1,x2⟩:=x
    dsimp only at c0 c1 c2
    go_upto_region 4 with(fail)
    generalize Ai:wr.alloc _=w4;obtain⟨Ac,Ag,Av⟩:=gM Ai;have Ad:=Hd (Aj.o.trans (Ac.mono Aj.o.size));have f0:=(HF.o.below Ac).cell 0;have f1:=(HF.o.below Ac).cell 1;have f2:=(HF.o.below Ac).cell 2;obtain⟨e0,e1,e2,-,-,-⟩:=Sx Ag.cell;simp only [aC,List.getElem?_toArray,Yz,Zb] at f0 f1 f2 e0 e1 e2;clear Ai Ac Ag Av c0 c1 c2;rcases iC x0 x1 x2 a b c with⟨h0,h1,h2,he⟩|⟨h1,he⟩|⟨h0,h1,he⟩|⟨h0,h1,h2,he⟩
    . have Aq:=Hd (Ab.o he);clear Ab HN;subst h0 h1 h2
      go_wp2_with fail
      go_roundw
      case rel=>exact⟨k+1,by omega,by go_num,Aq.o,Ad.o⟩
      case measure=>simp [intOf];omega
    . have HO:=Hd (HN.o he);clear HN Ab he
      go_wp2_with fail
      go_ret
      exact⟨aF HO.o.symm,Aa.o.trans (Ad.o.mono Aa.o.size)⟩
    . have HO:=Hd (HN.o he);clear HN Ab he;subst h0
      go_wp2_with fail
      go_ret
      exact⟨aF HO.o.symm,Aa.o.trans (Ad.o.mono Aa.o.size)⟩
    . have HO:=Hd (HN.o he);clear HN Ab he;subst h0 h1
      go_wp2_with fail
      go_ret
      exact⟨aF HO.o.symm,Aa.o.trans (Ad.o.mono Aa.o.size)⟩
  . have HY:=Hd (Ar.o fun j hj=>Ak.o j (by omega))
    go_wp2_with fail
    go_ret
    exact⟨aF HY.o.symm,Af.o⟩
theorem aDy(A B:Option Addr) (n m c d:Nat) (l r:List T3) (w:World) (h:aM w A n l) (h':aM w B m r):
 Calls Tryz.prog 154 #[.slice A n c,.slice B m d] w fun e w'=>e=.returned (.bool (decide (l=r)))/\Below w.heap.size w w':=by
 have hl:=h.len;have hm:=h.max;have Am:=h'.len;have Ar:=h'.max;have HR:=Hd h;have Ah:=Hd h';have Ad:=Hd (show n≠m->decide (l=r)=false from fun An=>Zy fun e=>An (by rw [<- hl,<- Am,e]));have Ak:=Hd (show ∀ i,i<n->¬ aB l i=aB r i->decide (l=r)=false from fun i hi hn=>Zy fun e=>hn (by rw [e]))
 have Aj:=Hd (show n=m->(∀ i,i<n->aB l i=aB r i)->decide (l=r)=true from fun Ac ha=>Zx (by
  apply List.ext_getElem (by omega)
  intro i h1 h2;have:=ha i (by omega);rwa [oD h1,oD h2] at this))
 clear h h';generalize decide (l=r)=Aq at *
 go_enter Tryz.func154,Tryz.ntmps154
 by_cases Ac:n=m
 . subst Ac;have hq:((n:Int) != (n:Int))=false:=by simp
   go_wp2_with fail
   go_loopw [5,13] (fun _ i wr=>∃ k:Nat,k<=n/\i=.int .i64 k/\(∀ j,j<k->aB l j=aB r j)/\∃ p,wr=w.drewN p) (fun _ i _=>n-(intOf i).toNat)
   case atStart=>exact⟨0,Yq _,rfl,fun j hj=>absurd hj (by omega),0,rfl⟩
   case round=>
    obtain⟨k,hk,rfl,Ag,p,rfl⟩:=hrel;have Ae:=Hd Ag;clear Ag
    by_cases Ab:k<n
    . obtain⟨b,Ao,rfl,hb,hc⟩:=HR.o.at_ Ab;obtain⟨c0,c1,c2⟩:=hc k Ab;obtain⟨b',Al,rfl,Ap,Af⟩:=Ah.o.at_ Ab;obtain⟨d0,d1,d2⟩:=Af k Ab;have HN:=Hd (Ak.o k Ab);have Aa:=Hd fun(e:aB l k=aB r k)=>dK (P:=fun j=>aB l j=aB r j) Ae.o e;clear hc Af;generalize aB l k=x at c0 c1 c2 HN Aa;generalize aB r k=y at d0 d1 d2 HN Aa;obtain⟨x0,x1,x2⟩:=x;obtain⟨y0,y1,y2⟩:=y
      dsimp only at c0 c1 c2 d0 d1 d2
      rcases iC x0 x1 x2 y0 y1 y2 with⟨rfl,rfl,rfl,he⟩|⟨h1,he⟩|⟨rfl,h1,he⟩|⟨rfl,rfl,h1,he⟩
      . have Ai:=Hd (Aa.o rfl);clear Aa HN
        go_wp2_with fail
        go_quiet (fail)
        go_wp2_with fail
        go_roundw
        case rel=>exact⟨k+1,by omega,by go_num,fun j hj=>Ai.o j hj,_,rfl⟩
        case measure=>simp [intOf];omega
      all_goals
       have HO:=Hd (HN.o he);clear HN Aa he
       go_wp2_with fail
       go_quiet (fail)
       go_wp2_with fail
       go_ret
       exact⟨aF HO.o.symm,aY (aY (Yg _ _) _) _⟩
    . have HY:=Hd (Aj.o (by first | trivial | rfl) fun j hj=>Ae.o j (by omega))
      go_wp2_with fail
      go_ret
      exact⟨aF HY.o.symm,aY (Yg _ _) _⟩
 . have HO:=Hd (Ad.o Ac);have hq:((n:Int) != (m:Int))=true:=by rw [bne_iff_ne];omega
   go_wp2_with fail
   go_ret
   exact⟨aF HO.o.symm,Yg _ _⟩
def yJ(w:World) (l:List T3) (e:Ending) (w':World):Prop:=∃ S c,e=.returned (.slice S l.length c)/\aM w' S l.length l/\Below w.heap.size w w'
theorem aBq(A:Option Addr) (n cp:Nat) (l:List Dc) (w:World) (h:cH w A n l) (hn:n<=1000):
 Calls Tryz.prog 155 #[.slice A n cp] w (yJ w (l.map aO)):=by
 have Ao:=aQ.len h;have HR:=Hd h;have Av:=Hd kZ
 have As:=Hd (show ∀ k,k<n->(l.take (k+1)).map aO=(l.take k).map aO++[aO (l[k]?.getD default)] from fun k hk=>by
  rw [List.take_succ_eq_append_getElem (by omega),Zp,Yk (by omega)];rfl)
 have HZ:=Hd (show(l.take 0).map aO=[] from rfl);have Aj:=Hd (show(l.take n).map aO=l.map aO by rw [Yx (by omega)]);have Aq:=Hd (show(l.map aO).length=n by rw [List.length_map,Ao]);obtain⟨i0,z0,Au,Aw,Az,Ax,Ba⟩:=nO rW;clear h Ao
 go_enter Tryz.func155,Tryz.ntmps155
 go_wp2_with fail
 go_loopw [3,8] (fun v i wr=>∃ k:Nat,k<=n/\i=.int .i64 k/\wr.ownsRow w.heap.size 38 3 v k (fJ ((l.take k).map aO))/\Below w.heap.size w wr) (fun _ i _=>n-(intOf i).toNat)
 case atStart=>exact⟨0,Yq _,rfl,by rw [HZ.o];exact World.ownsRow_nil _ _ _ _,Yg _ _⟩
 case round=>
  obtain⟨k,hk,rfl,Ad,Af⟩:=hrel;have Ac:=Hd Ad;have Ai:=Hd Af;clear Ad
  by_cases Ap:k<n
  . obtain⟨b,Be,rfl,hb,d0,d1,d2,d3,d4,d5⟩:=qX (HR.o.below Af) Ap;have HK:=Hd (As.o k Ap);clear Af;generalize l[k]?.getD default=x at d0 d1 d2 d3 d4 d5 HK;have HD:=Hd fun w1 hw=>Av.o wr x w1 hw;unfold bC at HD
    go_upto_region 5 with(fail)
    generalize Am:wr.alloc _=w4;obtain⟨Ak,Bd,Ar⟩:=HD.o w4 Am;have Ag:=Hd (Ai.o.trans (Ak.mono Ai.o.size));have Ae:=Hd (fK Ac.o Ak);obtain⟨-,e1,e2,e3,-,-⟩:=Sx (Ar w4 (Yg _ _));simp only [Ya,Yb,Yc] at e1 e2 e3;have Bf:=Ag.o.size;clear Am Ak Bd Ar d0 d1 d2 d3 d4 d5 HD
    go_wp2_with (at_builtin;refine wpList_append_own_at _ rfl _ _ 99 rfl w.heap.size 38 i0 z0 3 24 Tryz.underlying99 Au Aw Az Ax Ba (by decide) u3 k (fJ ((l.take k).map aO)) rfl (fK Ae.o ((Yg w4.heap.size w4).alloc (Yh _) (.cells #[.int .i64 x.k,.int .i64 x.e,.int .i64 x.l] 38))) ⟨w4.heap.size,0,none⟩ 1 1 [.int .i64 x.k,.int .i64 x.e,.int .i64 x.l] rfl rfl (fun j u hu=>World.news_of_block (Zw _ _) j u hu) (by simp [Value.oneCell']) (by unfold maxLen;omega) (by omega) (by simp;omega) ?_;intro v' w9 Aa Ab Al Ah;have Bc:=Hd Aa;have Bb:=Hd (show Below w.heap.size w w9 from(Ag.o.alloc Ag.o.size _).grown Ab (by simp;omega) (fun j hj=>(Ae.o.lt j hj).1));clear Aa Ab Al Ah)
    go_roundw
    case rel=>exact⟨k+1,by omega,by go_num,by rw [HK.o,rU,rV];exact Bc.o,Bb.o⟩
    case measure=>simp [intOf];omega
  . obtain rfl:k=n:=by omega
    obtain⟨S,c,rfl,An⟩:=aM.of_own Ac.o (by omega);have Ay:=Hd An;clear An Af
    go_wp2_with fail
    go_ret
    exact⟨S,c,(by rw [Aq.o];rfl),by rw [Aq.o,<- Aj.o];exact Ay.o,Ai.o⟩
end
end Go.Proofs.YtegjgiofmpolnaaGreat
