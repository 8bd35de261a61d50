/- A part of the proof. Conditions: each theorem's own. -/
import Derived.Test.YtagkcjpoipcpkaaGreatDoorF16
namespace Go.Proofs.YtagkcjpoipcpkaaGreatDoor
set_option linter.unusedVariables false
set_option linter.unusedSimpArgs false
set_option maxRecDepth 100000
set_option maxHeartbeats 40000000
section
variable {m:Nat}{fs:List Fr}{ps:List Ex}{sz:Nat}{r:List Tk}{res:PR (List Ex × Nat)->Prop}
theorem xR{l:Lv}{new:List Fr}{g:bZ}(h:∀ps sz r,dG (.m l) ps sz r=.ok (new,ps,sz) r)(H:eQ new g m):eQ [.m l] g m:=
 fun fs ps sz r res hr hm Ax Ap=>jX (h ps sz r) (H fs ps sz r res hr hm Ax Ap)
theorem vV{s:LU}(hr:aU r)(Ax:∀r1,aR s r=.ok () r1->aU r1->r1.length<r.length->gF fs ps sz r1 res)(Ap:∀r1,aR s r=.bad r1->res (.bad r1)):gF (.sign s::fs) ps sz r res:=by
 cases hn:aR s r with
 |ok u r1=>
  have h1:=oI hr hn;exact jX (new:=[]) (ps2:=ps) (sz2:=sz) (r2:=r1) (by simp[dG,hn]) (Ax r1 hn h1.1 aA)
 |bad q=>exact xI (by simp only[dG,hn,PR.bind_bad];exact Ap q hn)
theorem aNg{lv:Lv}{g:bZ}(H:eQ [.m lv] g m)(x0:Ex)(hr:aU r)(hm:r.length<=m)
 (Ax:∀y r2,g r=.ok y r2->aU r2->r2.length<r.length->∀x1 Aa,Aa=sz+1+aT y->(Aa<=60->x1=nI x0 [y])->gF fs (ps++[x1]) Aa r2 res)
 (Ap:∀r2,g r=.bad r2->res (.bad r2)):gF (.m lv::.made x0 ps.length::fs) ps sz r res:=by
 refine H (.made x0 ps.length::fs) ps sz r res hr hm ?_ Ap;intro y r2 hy Cu Ah y1 Aa Au hY;refine uF (Ax y r2 hy Cu Ah _ _ aA fun h=>?_);rw[if_pos h,hY aA]
theorem bTw{P:Ps}(HU:eQ [.m .un] P.un m)(Ae:eQ [.m .post] (nY P.ar P.po) (m+1)):eQ [.m .un] (iZ P) (m+1):=by
 intro fs ps sz r res hr hm Ax Ap;by_cases h1:aG [45] r=true
 . have he:=dE hr h1;refine jX (new:=[.m .un,.made (jI 5 1) ps.length]) (ps2:=ps) (sz2:=sz) (r2:=r.tail) (by simp[dG,gL,sW,aDe,cR,h1]) ?_;refine aNg HU (jI 5 1) he.1 aA ?_ ?_
   . intro y r2 hy Cu Ah x1 Aa Au hX;exact Ax (Ex.mk 5 0 ByteArray.empty 1 [] [y]) r2 (by simp only[iZ,h1,if_true,hy,PR.bind_ok]) Cu aA x1 Aa aQ6 hX
   . intro r2 hy;exact Ap r2 (by simp only[iZ,h1,if_true,hy,PR.bind_bad])
 . by_cases h2:aG iE r=true
   . have he:=dE hr h2;refine jX (new:=[.m .un,.made (jI 5 2) ps.length]) (ps2:=ps) (sz2:=sz) (r2:=r.tail) (by simp[dG,gL,sW,aDe,cR,h1,h2]) ?_;refine aNg HU (jI 5 2) he.1 aA ?_ ?_
     . intro y r2 hy Cu Ah x1 Aa Au hX;exact Ax (Ex.mk 5 0 ByteArray.empty 2 [] [y]) r2 (by simp only[iZ,h1,h2,if_true,if_false,hy,PR.bind_ok,Zb]) Cu aA x1 Aa aQ6 hX
     . intro r2 hy;exact Ap r2 (by simp only[iZ,h1,h2,if_true,if_false,hy,PR.bind_bad,Zb])
   . by_cases h3:aG oD r=true
     . have he:=dE hr h3;refine jX (new:=[.m .un,.made (dX 10) ps.length]) (ps2:=ps) (sz2:=sz) (r2:=r.tail) bGd ?_;refine aNg HU (dX 10) he.1 aA ?_ ?_
       . intro y r2 hy Cu Ah x1 Aa Au hX;exact Ax (Ex.mk 10 0 ByteArray.empty 0 [] [y]) r2 (by simp only[iZ,h1,h2,h3,if_true,if_false,hy,PR.bind_ok,Zb]) Cu aA x1 Aa aQ6 hX
       . intro r2 hy;exact Ap r2 (by simp only[iZ,h1,h2,h3,if_true,if_false,hy,PR.bind_bad,Zb])
     . have hu:iZ P r=nY P.ar P.po r:=by simp only[iZ,h1,h2,h3,if_false,Zb]
       refine jX (new:=[.m .post]) (ps2:=ps) (sz2:=sz) (r2:=r) bGd ?_;exact Ae fs ps sz r res hr hm (fun x r1 hx=>Ax x r1 (hu.trans hx)) fun r1 hx=>Ap r1 (hu.trans hx)
theorem aLs{ar:bZ}(HA:eQ [.m .arrow] ar m):∀(f:Nat)(fs:List Fr)(ps:List Ex)(sz:Nat)(e e1:Ex)(r:List Tk)(res:PR (List Ex × Nat)->Prop),aU r->r.length<f->r.length<=m+1->
 (sz<=60->e1=e)->
 (∀x r1,kS ar f e r=.ok x r1->aU r1->r1.length<=r.length->∀x1 Ae,Ae+aT e=sz+aT x->sz<=Ae->(Ae<=60->x1=x)->gF fs (ps++[x1]) Ae r1 res)->
 (∀r1,kS ar f e r=.bad r1->res (.bad r1))->gF (.m .behind::fs) (ps++[e1]) sz r res
 |0,fs,ps,sz,e,e1,r,res,hr,hf,hm,hE,Ax,Ap=>absurd hf aA
 |f+1,fs,ps,sz,e,e1,r,res,hr,hf,hm,hE,Ax,Ap=>by
  by_cases h1:aG [91] r=true
  . have he:=dE hr h1;refine jX (new:=[.m .arrow,.sign [93],.made (dX 15) ps.length,.m .behind]) (ps2:=ps++[e1]) (sz2:=sz) (r2:=r.tail) (by simp[dG,gL,qG,h1]) ?_;refine HA (.sign [93]::.made (dX 15) ps.length::.m .behind::fs) (ps++[e1]) sz r.tail res he.1 aA ?_ ?_
    . intro y r2 hy Cu Ct y1 sz2 Ha hY;refine vV Cu ?_ ?_
      . intro r3 hn Fs Hb;rw[Yy];refine uF ?_;refine aLs HA f fs ps (sz2+1) (Ex.mk 15 0 ByteArray.empty 0 [] [e,y]) _ r3 res Fs aA aA (fun h=>?_) ?_ ?_
        . rw[if_pos h,hE aA,hY aA];rfl
        . intro x r4 hx Aq Cz x1 Bs Aa hs hX;refine Ax x r4 bF2 Aq aA x1 Bs ?_ aA hX;rw[pG,aHq]at Aa;omega
        . intro r4 hx;exact Ap r4 bF2
      . intro r3 hn;exact Ap r3 (by simp only[kS,h1,if_true,hy,PR.bind_ok,hn,PR.bind_bad])
    . intro r2 hy;exact Ap r2 (by simp only[kS,h1,if_true,hy,PR.bind_bad])
  . by_cases h2:aG gR r=true
    . have he:=dE hr h2;cases hw:dU r.tail with
      |ok z r2=>
       have hz:=aIa he.1 hw;refine jX (new:=[.made (bFf z) ps.length,.m .behind]) (ps2:=ps++[e1]) (sz2:=sz) (r2:=r2) (by simp[dG,gL,qG,h1,h2,hw]) ?_;refine uF ?_;refine aLs HA f fs ps (sz+1) (Ex.mk 11 0 (aB z.1) 0 [aB z.2] [e]) _ r2 res hz.1 aA aA (fun h=>?_) ?_ ?_
       . rw[if_pos h,hE aA];rfl
       . intro x r4 hx Aq Cz x1 Bs Aa hs hX;refine Ax x r4 bFs Aq aA x1 Bs ?_ aA hX;rw[pG,xJ]at Aa;omega
       . intro r4 hx;exact Ap r4 bFs
      |bad q=>
       refine xI ?_;simp only[dG,gL,qG,h1,h2,if_true,if_false,hw,PR.bind_bad,Zb];exact Ap q (by simp only[kS,h1,h2,if_true,if_false,hw,PR.bind_bad,Zb])
    . refine jX (new:=[]) (ps2:=ps++[e1]) (sz2:=sz) (r2:=r) (by simp[dG,gL,qG,h1,h2]) ?_;exact Ax e r (by simp only[kS,h1,h2,if_false,Zb]) hr (Yh _) e1 sz rfl (Yh _) hE
theorem bMm{ar po:bZ}(HA:eQ [.m .arrow] ar m)(HT:eQ [.m .atom] (dD ar po) (m+1)):eQ [.m .post] (nY ar po) (m+1):=by
 refine xR (new:=[.m .atom,.m .behind]) (fun ps sz r=>rfl) ?_;intro fs ps sz r res hr hm Ax Ap;refine HT (.m .behind::fs) ps sz r res hr hm ?_ ?_
 . intro e r1 he Al Ah e1 Aa Au hE;refine aLs HA (r.length+1) fs ps Aa e e1 r1 res Al aA aA hE ?_ ?_
   . intro x r2 hx Cu Cz x1 sz2 Ae hs hX;exact Ax x r2 bB3 Cu aA x1 sz2 aA hX
   . intro r2 hx;exact Ap r2 bB3
 . intro r1 he;exact Ap r1 (by simp only[nY,he,PR.bind_bad])
theorem aMv{ar:bZ}(HA:eQ [.m .arrow] ar m)(Ae:LU)(ev:Bool)(x0:Ex):∀(f:Nat)(fs:List Fr)(ps:List Ex)(sz:Nat)(acc Aa:List Ex)(r:List Tk)(res:PR (List Ex × Nat)->Prop),aU r->r.length<=f->r.length<=m->
 (sz<=60->Aa=acc)->
 (∀l r1,qP ar f acc r=.ok l r1->aU r1->r1.length<=r.length->∀l1 Aq,Aq+bW acc=sz+bW l->sz<=Aq->(Aq<=60->l1=l)->sR ((aR Ae r1).bind fun _ r=>yM ev x0 ps.length (ps++l1) Aq r) fs res)->
 (∀r1,qP ar f acc r=.bad r1->res (.bad r1))->gF (.list Ae ev x0 ps.length::fs) (ps++Aa) sz r res
 |0,fs,ps,sz,acc,Aa,r,res,hr,hf,hm,hE,Ax,Ap=>by
  obtain⟨t,r',rfl⟩:=hr.cons_;simp at hf
 |f+1,fs,ps,sz,acc,Aa,r,res,hr,hf,hm,hE,Ax,Ap=>by
  by_cases h1:aG [44] r=true
  . have he:=dE hr h1;refine jX (new:=[.m .arrow,.list Ae ev x0 ps.length]) (ps2:=ps++Aa) (sz2:=sz) (r2:=r.tail) (by simp[dG,h1]) ?_;refine HA (.list Ae ev x0 ps.length::fs) (ps++Aa) sz r.tail res he.1 aA ?_ ?_
    . intro y r2 hy Cu Fs y1 sz2 Hb hY;rw[Yy];refine aMv HA Ae ev x0 f fs ps sz2 (acc++[y]) (Aa++[y1]) r2 res Cu aA aA (fun h=>by rw[hE aA,hY h]) ?_ ?_
      . intro l r3 hl Ha Cz l1 Ct Bs hs hL;refine Ax l r3 bF6 Ha aA l1 Ct ?_ aA hL;rw[aBl,xJ]at Bs;omega
      . intro r3 hl;exact Ap r3 bF6
    . intro r2 hy;exact Ap r2 (by simp only[qP,h1,if_true,hy,PR.bind_bad])
  . refine xI ?_;have hs:dG (.list Ae ev x0 ps.length) (ps++Aa) sz r=(aR Ae r).bind fun _ r=>yM ev x0 ps.length (ps++Aa) sz r:=by
     simp only[dG,h1,if_false,Zb]
    rw[hs];exact Ax acc r (by simp only[qP,h1,if_false,Zb]) hr (Yh _) Aa sz rfl (Yh _) hE
theorem aBw{α:Type}{x:PR α}{Aa:α->List Tk->jK}(Ax:∀a r1,x=.ok a r1->sR (Aa a r1) fs res)(Ap:∀r1,x=.bad r1->res (.bad r1)):sR (x.bind Aa) fs res:=by
 cases hx:x with
 |ok a r1=>exact Ax a r1 hx
 |bad q=>exact Ap q hx
theorem aT3{po:bZ}(HP:eQ [.m .post] po m)(s:LU){l l1:List Ex}(hr:aU r)(hm:r.length<=m+1)(hL:sz<=60->l1=l)
 (Ax:∀x r1,rX po s l r=.ok x r1->aU r1->r1.length<=r.length->∀x1 Aa,Aa+bW l=sz+aT x->(Aa<=60->x1=x)->gF fs (ps++[x1]) Aa r1 res)
 (Ap:∀r1,rX po s l r=.bad r1->res (.bad r1)):sR (lB (.mk 13 0 (aB s) 0 [] []) ps.length (ps++l1) sz r) fs res:=by
 by_cases h1:aG qL r=true
 . have he:=dE hr h1;simp only[lB,h1,if_true];show gF (.m .post::.made (.mk 13 1 (aB s) 0 [] []) ps.length::fs) (ps++l1) sz r.tail res;refine HP (.made (.mk 13 1 (aB s) 0 [] []) ps.length::fs) (ps++l1) sz r.tail res he.1 aA ?_ ?_
   . intro y r2 hy Cu Ah y1 sz2 Ae hY;rw[Yy];refine uF (Ax (Ex.mk 13 1 (aB s) 0 [] (l++[y])) r2 (by simp only[rX,h1,if_true,hy,PR.bind_ok]) Cu aA _ _ (by rw[pG,aBl,xJ];omega) fun h=>?_);rw[if_pos h,hL aA,hY aA];rfl
   . intro r2 hy;exact Ap r2 (by simp only[rX,h1,if_true,hy,PR.bind_bad])
 . simp only[lB,h1,if_false,Zb];show gF (.made (.mk 13 0 (aB s) 0 [] []) ps.length::fs) (ps++l1) sz r res;refine uF (Ax (Ex.mk 13 0 (aB s) 0 [] l) r (by simp only[rX,h1,if_false,Zb]) hr (Yh _) _ _ (by rw[pG];omega) fun h=>?_);rw[if_pos h,hL aA];rfl
theorem aHs{x0 x:Ex}{l l1:List Ex}(hx:nI x0 l=x)(Ae:aT x=1+bW l)(hL:sz<=60->l1=l)
 (Ax:∀x1 Aa,Aa+bW l=sz+aT x->(Aa<=60->x1=x)->gF fs (ps++[x1]) Aa r res):sR (jR x0 ps.length (ps++l1) sz r) fs res:=by
 unfold jR sR;rw[aVp];show gF fs (ps++[if sz+1<=60 then nI x0 l1 else x0]) (sz+1) r res;refine Ax _ _ aA fun h=>?_;rw[if_pos h,hL aA,hx]
theorem aVx{ar:bZ}(HA:eQ [.m .arrow] ar m)(s:BA):∀(f:Nat)(fs:List Fr)(ps:List Ex)(sz:Nat)(am:LB)(l l1:List Ex)(r:List Tk)(res:PR (List Ex × Nat)->Prop),aU r->r.length<f->r.length<=m+1->
 (sz<=60->l1=l)->
 (∀z r1,nX ar f am l r=.ok z r1->aU r1->r1.length<r.length->∀l2 sz2,sz2+bW l=sz+bW z.2->sz<=sz2->(sz2<=60->l2=z.2)->sR (jR (.mk 12 0 s 0 z.1 []) ps.length (ps++l2) sz2 r1) fs res)->
 (∀r1,nX ar f am l r=.bad r1->res (.bad r1))->sR (aGa (.mk 12 0 s 0 am []) ps.length (ps++l1) sz r) fs res
 |0,fs,ps,sz,am,l,l1,r,res,hr,hf,hm,hE,Ax,Ap=>absurd hf aA
 |f+1,fs,ps,sz,am,l,l1,r,res,hr,hf,hm,hE,Ax,Ap=>by
  refine aBw ?_ ?_
  . intro a r1 ha;have h1:=aCb hr ha;refine aBw ?_ ?_
    . intro u r2 hn;have h2:=oI h1.1 hn;show gF (.m .arrow::.sign [41]::.more (.mk 12 0 s 0 (am++[aB a]) []) ps.length::fs) (ps++l1) sz r2 res;refine HA (.sign [41]::.more (.mk 12 0 s 0 (am++[aB a]) []) ps.length::fs) (ps++l1) sz r2 res h2.1 aA ?_ ?_
      . intro y r3 hy Hc Ng y1 Aa Ha hY;refine vV Hc ?_ ?_
        . intro r4 Aq Bs Dt;rw[Yy];refine xI ?_;by_cases Ae:aG [40] r4=true
          . have h5:=dE Bs Ae;have hs:dG (.more (.mk 12 0 s 0 (am++[aB a]) []) ps.length) (ps++(l1++[y1])) Aa r4=aGa (.mk 12 0 s 0 (am++[aB a]) []) ps.length (ps++(l1++[y1])) Aa r4.tail:=by
             simp only[dG,Ae,if_true,rC,aR,PR.bind_ok]
            rw[hs];have he:nX ar (f+1) am l r=nX ar f (am++[aB a]) (l++[y]) r4.tail:=by
             simp only[nX,ha,PR.bind_ok,hn,hy,Aq,Ae,if_true]
            refine aVx HA s f fs ps Aa (am++[aB a]) (l++[y]) (l1++[y1]) r4.tail res h5.1 aA aA (fun h=>by rw[hE aA,hY h]) ?_ ?_
            . intro z r6 hz Hb Ct l2 Jx Is Nh Fs;refine Ax z r6 (he.trans hz) Hb aA l2 Jx ?_ aA Fs;rw[aBl,xJ]at Is;omega
            . intro r6 hz;exact Ap r6 (he.trans hz)
          . have hs:dG (.more (.mk 12 0 s 0 (am++[aB a]) []) ps.length) (ps++(l1++[y1])) Aa r4=jR (.mk 12 0 s 0 (am++[aB a]) []) ps.length (ps++(l1++[y1])) Aa r4:=by
             simp only[dG,Ae,if_false,Zb]
            rw[hs];refine Ax (am++[aB a],l++[y]) r4 (by simp only[nX,ha,PR.bind_ok,hn,hy,Aq,Ae,if_false,Zb]) Bs aA _ Aa ?_ aA fun h=>by rw[hE aA,hY h]
            rw[aBl,xJ];omega
        . intro r4 Aq;exact Ap r4 (by simp only[nX,ha,PR.bind_ok,hn,hy,Aq,PR.bind_bad])
      . intro r3 hy;exact Ap r3 (by simp only[nX,ha,PR.bind_ok,hn,hy,PR.bind_bad])
    . intro r2 hn;exact Ap r2 (by simp only[nX,ha,PR.bind_ok,hn,PR.bind_bad])
  . intro r1 ha;exact Ap r1 (by simp only[nX,ha,PR.bind_bad])
end
section
variable {m:Nat}{fs:List Fr}{ps:List Ex}{sz:Nat}{r:List Tk}{res:PR (List Ex × Nat)->Prop}
theorem aVy{s s':LU}(h:aG s r=true)(Bv:(s==s')=false):aG s' r=false:=by
 obtain⟨t,r',rfl,hs,hk⟩:=aBz h;simp only[aG,hs,Bv,Bool.false_and]
theorem aIb{s:LU}(h:aG s r=true)(h1:s≠eF)(h2:s≠dY):dK r=none:=by
 obtain⟨t,r',rfl,hs,hk⟩:=aBz h;subst hs;simp only[dK];rw[if_neg aA,if_neg aA,if_neg aA,if_neg (fun h=>h1 h.2),if_neg (fun h=>h2 h.2)]
theorem bMn(h:oM r=true):dK r=none:=by
 match r,h with
 |t::r',h=>
  simp only[oM,Yu,beq_iff_eq,Bool.not_eq_true']at h;simp only[dK];rw[if_neg aA,if_neg aA,if_neg aA,if_neg (fun k=>by rw[k.2]at h;exact absurd h.2 aF),if_neg (fun k=>by rw[k.2]at h;exact absurd h.2 aF)]
theorem bMo(h:oM r=true):∃s r1,bT r=.ok s r1:=by
 match r,h with
 |t::r',h=>
  simp only[oM,Yu,beq_iff_eq,Bool.not_eq_true']at h;exact⟨t.s,r',by simp[bT,h.1,h.2]⟩
theorem bPe(h:oM r=false):bT r=.bad r:=by
 match r,h with
 |[],h=>rfl
 |t::r',h=>
  simp only[bT];rw[if_neg];rintro ⟨h1,h2⟩;simp[oM,h1,h2]at h
theorem bMp{ar po:bZ}(HA:eQ [.m .arrow] ar m)(HP:eQ [.m .post] po m):eQ [.m .atom] (dD ar po) (m+1):=by
 intro fs ps sz r res hr hm Ax Ap;by_cases h1:aG [40] r=true
 ·
  have he:=dE hr h1;have hA:dD ar po r=nQ ar r.tail:=by
   unfold dD;simp only[aIb h1 aF aF,aVy h1 (s':=[91]) aF,h1,if_true,if_false,Zb]
  rw[hA]at Ax Ap;refine jX (new:=[.m .arrow,.m .brk]) (ps2:=ps) (sz2:=sz) (r2:=r.tail) (by simp[dG,gL,oY,h1]) ?_;refine HA (.m .brk::fs) ps sz r.tail res he.1 aA ?_ ?_
  . intro e r1 hE Al Ah e1 Aa Au hX;by_cases hw:aG qO r1=true
    . have Af:=dE Al hw;refine jX (new:=[.sign [91],.m .arrow,.sign [93],.sign [61],.m .arrow,.made (dX 16) ps.length,.sign [41]]) (ps2:=ps++[e1]) (sz2:=Aa) (r2:=r1.tail) (by simp[dG,gL,tX,hw]) ?_;refine vV Af.1 ?_ ?_
      . intro r2 Bm Cu Nn;refine HA (.sign [93]::.sign [61]::.m .arrow::.made (dX 16) ps.length::.sign [41]::fs) (ps++[e1]) Aa r2 res Cu aA ?_ ?_
        . intro i r3 hI Fs Nh i1 Ha Hb Ns;refine vV Fs ?_ ?_
          . intro r4 Bs Nm Dt;refine vV Nm ?_ ?_
            . intro r5 Gu Ng Nk;refine HA (.made (dX 16) ps.length::.sign [41]::fs) (ps++[e1]++[i1]) Ha r5 res Ng aA ?_ ?_
              . intro v r6 hV Nw Ny v1 Ob Is Nz;rw[Yy,Yy];refine uF ?_;refine vV Nw ?_ ?_
                . intro r7 Hc Nj Ni;refine Ax (Ex.mk 16 0 ByteArray.empty 0 [] [e,i,v]) r7 (by simp only[nQ,hE,PR.bind_ok,hw,if_true,Bm,hI,Bs,Gu,hV,Hc]) Nj aA _ _ (by rw[pG,aSx];omega) fun h=>?_;rw[if_pos h,hX aA,Ns aA,Nz aA];rfl
                . intro r7 Hc;exact Ap r7 (by simp only[nQ,hE,PR.bind_ok,hw,if_true,Bm,hI,Bs,Gu,hV,Hc,PR.bind_bad])
              . intro r6 hV;exact Ap r6 (by simp only[nQ,hE,PR.bind_ok,hw,if_true,Bm,hI,Bs,Gu,hV,PR.bind_bad])
            . intro r5 Gu;exact Ap r5 (by simp only[nQ,hE,PR.bind_ok,hw,if_true,Bm,hI,Bs,Gu,PR.bind_bad])
          . intro r4 Bs;exact Ap r4 (by simp only[nQ,hE,PR.bind_ok,hw,if_true,Bm,hI,Bs,PR.bind_bad])
        . intro r3 hI;exact Ap r3 (by simp only[nQ,hE,PR.bind_ok,hw,if_true,Bm,hI,PR.bind_bad])
      . intro r2 Bm;exact Ap r2 (by simp only[nQ,hE,PR.bind_ok,hw,if_true,Bm,PR.bind_bad])
    . refine jX (new:=[.sign [41]]) (ps2:=ps++[e1]) (sz2:=Aa) (r2:=r1) (by simp[dG,gL,tX,hw]) ?_;refine vV Al ?_ ?_
      . intro r7 Hc Nj Ni;exact Ax e r7 (by simp only[nQ,hE,PR.bind_ok,hw,if_false,Zb,Hc]) Nj aA e1 Aa Au hX
      . intro r7 Hc;exact Ap r7 (by simp only[nQ,hE,PR.bind_ok,hw,if_false,Zb,Hc,PR.bind_bad])
  . intro r1 hE;exact Ap r1 (by simp only[nQ,hE,PR.bind_bad])
 . by_cases h2:aG [91] r=true
   ·
    have he:=dE hr h2;have hA:dD ar po r=(sH ar [93] r.tail).bind fun l r=>.ok (Ex.mk 14 0 ByteArray.empty 0 [] l) r:=by
     unfold dD;simp only[aIb h2 aF aF,h2,if_true]
    rw[hA]at Ax Ap;refine jX (new:=[.m .arrow,.list [93] false (dX 14) ps.length]) (ps2:=ps) (sz2:=sz) (r2:=r.tail) (by simp[dG,gL,oY,h1,h2]) ?_;refine HA (.list [93] false (dX 14) ps.length::fs) ps sz r.tail res he.1 aA ?_ ?_
    . intro e r1 hE Al Ah e1 Aa Au hX;refine aMv HA [93] false (dX 14) r1.length fs ps Aa [e] [e1] r1 res Al (Yh _) aA (fun h=>by rw[hX h]) ?_ ?_
      . intro l r2 hl Cu Cz l1 sz2 Aq hs hL;refine aBw ?_ ?_
        . intro u r3 hn;have h3:=oI Cu hn;refine aHs (x:=Ex.mk 14 0 ByteArray.empty 0 [] l) rfl (pG _ _ _ _ _ _) hL fun x1 Ha Hb No=>?_;refine Ax _ r3 bGg h3.1 aA x1 Ha ?_ No;rw[xJ]at Aq;omega
        . intro r3 hn;exact Ap r3 bFz
      . intro r2 hl;exact Ap r2 bF5
    . intro r1 hE;exact Ap r1 bB7
   . by_cases h3:aG kO r=true
     ·
      have he:=dE hr h3;have hA:dD ar po r=uA ar r.tail:=by
       unfold dD;simp only[aIb h3 aF aF,h1,h2,h3,aVy h3 (s':=jO) aF,if_true,if_false,Zb]
      rw[hA]at Ax Ap;refine jX (new:=[.m .arrow,.sign sF,.m .arrow,.sign pO,.m .arrow,.made (dX 7) ps.length]) (ps2:=ps) (sz2:=sz) (r2:=r.tail) (by simp[dG,gL,oY,h1,h2,h3]) ?_;refine HA (.sign sF::.m .arrow::.sign pO::.m .arrow::.made (dX 7) ps.length::fs) ps sz r.tail res he.1 aA ?_ ?_
      . intro a r1 hE Al Ah a1 Aa Au hX;refine vV Al ?_ ?_
        . intro r2 Bm Cu Nn;refine HA (.sign pO::.m .arrow::.made (dX 7) ps.length::fs) (ps++[a1]) Aa r2 res Cu aA ?_ ?_
          . intro b r3 hB Fs Nh b1 Ha Hb Nr;refine vV Fs ?_ ?_
            . intro r4 Bs Nm Dt;refine HA (.made (dX 7) ps.length::fs) (ps++[a1]++[b1]) Ha r4 res Nm aA ?_ ?_
              . intro c r5 hC Ng Nk c1 Nq Nl Nu;rw[Yy,Yy];refine uF (Ax (Ex.mk 7 0 ByteArray.empty 0 [] [a,b,c]) r5 (by simp only[uA,hE,PR.bind_ok,Bm,hB,Bs,hC]) Ng aA _ _ (by rw[pG,aSx];omega) fun h=>?_);rw[if_pos h,hX aA,Nr aA,Nu aA];rfl
              . intro r5 hC;exact Ap r5 (by simp only[uA,hE,PR.bind_ok,Bm,hB,Bs,hC,PR.bind_bad])
            . intro r4 Bs;exact Ap r4 (by simp only[uA,hE,PR.bind_ok,Bm,hB,Bs,PR.bind_bad])
          . intro r3 hB;exact Ap r3 (by simp only[uA,hE,PR.bind_ok,Bm,hB,PR.bind_bad])
        . intro r2 Bm;exact Ap r2 (by simp only[uA,hE,PR.bind_ok,Bm,PR.bind_bad])
      . intro r1 hE;exact Ap r1 (by simp only[uA,hE,PR.bind_bad])
     . by_cases h4:aG jO r=true
       ·
        have he:=dE hr h4;have hA:dD ar po r=wH ar r.tail:=by
         unfold dD;simp only[aIb h4 aF aF,h1,h2,h4,if_true,if_false,Zb]
        rw[hA]at Ax Ap;refine xI ?_;have hs:dG (.m .atom) ps sz r=aAn ps sz r.tail:=by simp only[dG,gL,oY,h1,h2,h3,h4,if_true,if_false,Zb]
        rw[hs];refine aBw ?_ ?_
        . intro s r1 Ct;have h5:=tC he.1 Ct;refine aBw ?_ ?_
          . intro u r2 Bm;have h6:=oI h5.1 Bm;have Be:ps=ps++[]:=aC
            have:=aVx HA (aB s) (r2.length+1) fs ps sz [] [] [] r2 res h6.1 aA aA (fun _=>rfl) ?_ ?_
            . exact aJ2
            . intro z r3 hz Fs Nh l2 sz2 Aq Oa hL;refine aHs (x:=Ex.mk 12 0 (aB s) 0 z.1 z.2) rfl (pG _ _ _ _ _ _) hL fun x1 Ha Hb No=>?_;refine Ax _ r3 (by simp only[wH,Ct,PR.bind_ok,Bm,hz]) Fs aA x1 Ha ?_ No;simp only[bW]at Aq;omega
            . intro r3 hz;exact Ap r3 (by simp only[wH,Ct,PR.bind_ok,Bm,hz,PR.bind_bad])
          . intro r2 Bm;exact Ap r2 (by simp only[wH,Ct,PR.bind_ok,Bm,PR.bind_bad])
        . intro r1 Ct;exact Ap r1 (by simp only[wH,Ct,PR.bind_bad])
       . by_cases h5:oM r=true
         ·
          have hA:dD ar po r=(bT r).bind fun s r=>if aG [40] r=true then uY ar po s r.tail else .ok (Ex.mk 3 0 (aB s) 0 [] []) r:=by
           unfold dD;simp only[bMn h5,h1,h2,h3,h4,if_false,Zb]
          rw[hA]at Ax Ap;refine xI ?_;have hs:dG (.m .atom) ps sz r=xY ps sz r:=by simp only[dG,gL,oY,h1,h2,h3,h4,h5,if_true,if_false,Zb]
          rw[hs];obtain⟨s,r1,Ct⟩:=bMo h5;have h6:=tC hr Ct;simp only[Ct,PR.bind_ok]at Ax Ap;simp only[xY,Ct,PR.bind_ok];by_cases h7:aG [40] r1=true
          . have h8:=dE h6.1 h7;simp only[h7,if_true]at Ax Ap;simp only[h7,if_true,aDf];by_cases h9:aG [41] r1.tail=true
            . have Nv:=dE h8.1 h9;simp only[h9,if_true];simp only[uY,h9,if_true]at Ax Ap
              have:=aT3 HP s (ps:=ps) (fs:=fs) (sz:=sz) (res:=res) (l:=[]) (l1:=[]) Nv.1 aA (fun _=>rfl) ?_ Ap
              . exact aJ2
              . intro x r2 hx Cu Cz x1 Aa Ae Jx;refine Ax x r2 hx Cu aA x1 Aa ?_ Jx;simp only[bW]at Ae;omega
            . simp only[h9,if_false,Zb];simp only[uY,h9,if_false,Zb]at Ax Ap;show gF (.m .arrow::.list [41] true (.mk 13 0 (aB s) 0 [] []) ps.length::fs) ps sz r1.tail res;refine HA (.list [41] true (.mk 13 0 (aB s) 0 [] []) ps.length::fs) ps sz r1.tail res h8.1 aA ?_ ?_
              . intro e r2 hE Cu Ah e1 Aa Au hX;refine aMv HA [41] true (.mk 13 0 (aB s) 0 [] []) r2.length fs ps Aa [e] [e1] r2 res Cu (Yh _) aA (fun h=>by rw[hX h]) ?_ ?_
                . intro l r3 hl Fs Cz l1 sz2 Aq hs hL;refine aBw ?_ ?_
                  . intro u r4 hn;have h11:=oI Fs hn;have Np:sH ar [41] r1.tail=.ok l r4:=bGg;refine aT3 HP s h11.1 aA hL ?_ ?_
                    . intro x r5 hx Ng Nt x1 Nq Nl Nx;refine Ax x r5 (by simp only[Np,PR.bind_ok,hx]) Ng aA x1 Nq ?_ Nx;rw[xJ]at Aq;omega
                    . intro r5 hx;exact Ap r5 (by simp only[Np,PR.bind_ok,hx])
                  . intro r4 hn;exact Ap r4 bFz
                . intro r3 hl;exact Ap r3 bF5
              . intro r2 hE;exact Ap r2 bB7
          . simp only[h7,if_false,Zb]at Ax Ap;simp only[h7,if_false,Zb]
            have:=aHs (x0:=Ex.mk 3 0 (aB s) 0 [] []) (x:=Ex.mk 3 0 (aB s) 0 [] []) (l:=[]) (l1:=[]) (ps:=ps) (fs:=fs) (sz:=sz) (r:=r1) (res:=res) rfl (pG _ _ _ _ _ _) (fun _=>rfl) fun x1 Aa Ae Jx=>?_
            . exact aJ2
            . refine Ax _ r1 rfl h6.1 aA x1 Aa ?_ Jx;simp only[bW]at Ae;omega
         ·
          refine xI ?_;have hs:dG (.m .atom) ps sz r=uI ps sz r:=by simp only[dG,gL,oY,h1,h2,h3,h4,h5,if_false,Zb]
          rw[hs];cases hp:dK r with
          |some z=>
           have hA:dD ar po r=.ok z.1 z.2:=by
            unfold dD;rw[hp]
           have h6:=aMq hr hp;simp only[uI,hp]
           have:=aHs (x0:=z.1) (x:=z.1) (l:=[]) (l1:=[]) (ps:=ps) (fs:=fs) (sz:=sz) (r:=z.2) (res:=res) (by rw[<-Ex.eta z.1,h6.2.2.1];rfl) (by rw[h6.2.2.2];rfl) (fun _=>rfl) fun x1 Aa Ae Jx=>?_
           . exact aJ2
           . refine Ax _ z.2 hA h6.1 aA x1 Aa ?_ Jx;simp only[bW]at Ae;omega
          |none=>
           have hA:dD ar po r=.bad r:=by
            unfold dD;simp only[hp,h1,h2,h3,h4,if_false,Zb,bPe aGl,PR.bind_bad]
           simp only[uI,hp];exact Ap r hA
end
structure aQn (P:Ps)(m:Nat):Prop where
 ar:eQ [.m .arrow] P.ar m
 fb:eQ [.m .fby] P.fb m
 un:eQ [.m .un] P.un m
 po:eQ [.m .post] P.po m
theorem bTx{P:Ps}{m:Nat}(H:aQn P m):aQn ⟨pI P,rB P,iZ P,nY P.ar P.po⟩ (m+1):=by
 have po:=bMm H.ar (bMp H.ar H.po);have un:=bTw H.un po;have pr:eQ [.m .prod] (tN P) (m+1):=xR (new:=[.m .un,.left aCa .un]) (fun _ _ _=>rfl) (aHe un);have su:eQ [.m .sum] (qY P) (m+1):=xR (new:=[.m .prod,.left aCq .prod]) (fun _ _ _=>rfl) (aHe pr);have cm:eQ [.m .cmp] (qZ P) (m+1):=xR (new:=[.m .sum,.once aCr .sum]) (fun _ _ _=>rfl) (bMa su);have an:eQ [.m .and] (rA P) (m+1):=xR (new:=[.m .cmp,.left aCs .cmp]) (fun _ _ _=>rfl) (aHe cm);have Aa:eQ [.m .or] (sV P) (m+1):=xR (new:=[.m .and,.left aDa .and]) (fun _ _ _=>rfl) (aHe an);have fb:eQ [.m .fby] (rB P) (m+1):=xR (new:=[.m .or,.right oF 8 .fby]) (fun _ _ _=>rfl) (aSy Aa H.fb);have ar:eQ [.m .arrow] (pI P) (m+1):=xR (new:=[.m .fby,.right mB 9 .arrow]) (fun _ _ _=>rfl) (aSy fb H.ar);exact⟨ar,fb,un,po⟩
theorem aHf{new:List Fr}{g:bZ}:eQ new g 0:=by
 intro fs ps sz r res hr hm;obtain⟨t,r',rfl⟩:=hr.cons_;simp at hm
theorem aVz:∀n,aQn (aV n) n
 |0=>⟨aHf,aHf,aHf,aHf⟩
 |n+1=>bTx (aVz n)
theorem aG4{n:Nat}{r:List Tk}(hr:aU r)(hn:r.length<=n):gF [.m .arrow] [] 0 r fun res=>match (aV n).ar r with
 |.ok x r1=>∃x1,res=.ok ([x1],aT x) r1/\aU r1/\r1.length<r.length/\(aT x<=60->x1=x)
 |.bad r1=>res=.bad r1:=by
 refine(aVz n).ar [] [] 0 r _ hr hn ?_ ?_
 . intro x r1 h Al Ah x1 Aa Au hX;refine bTd ?_;rw[h];obtain rfl:Aa=aT x:=by omega
   exact⟨x1,rfl,Al,Ah,hX⟩
 . intro r1 h;rw[h]
def wL:Lv->Nat
 |.arrow=>18
 |.fby=>16
 |.or=>14
 |.and=>12
 |.cmp=>10
 |.sum=>8
 |.prod=>6
 |.un=>4
 |.post=>3
 |.atom=>1
 |.behind=>1
 |.brk=>2
def wF:Fr->Nat
 |.m l=>wL l
 |_=>1
def pZ:List Fr->Nat
 |[]=>0
 |f::fs=>wF f+pZ fs
theorem aQo(l:Lv):wL l<=18:=by cases l<;>decide
theorem cAz(f:Fr):1<=wF f:=by
 cases f with
 |m l=>cases l<;>decide
 |_=>exact Yh 1
theorem aZn:∀fs:List Fr,fs.length<=pZ fs
 |[]=>Yh 0
 |f::fs=>by
  have:=cAz f
  have:=aZn fs
  simp only[Yq,pZ];omega
theorem aHg:∀fs gs:List Fr,pZ (fs++gs)=pZ fs+pZ gs
 |[],gs=>by simp[pZ]
 |f::fs,gs=>by
  simp only[Yx,pZ,aHg fs gs];omega
def xB:Lv->Nat->Nat
 |.behind,n=>n
 |.brk,n=>n
 |_,n=>n+1
def aDz:Fr->Nat->Nat
 |.m l,n=>xB l n
 |.sign _,n=>n
 |.made _ f,_=>f+1
 |.right _ _ _,n=>n
 |.left _ _,n=>n
 |.once _ _,n=>n
 |.list _ _ _ f,_=>f+1
 |.more _ f,_=>f+1
def aKe:List Fr->Nat->Nat
 |[],n=>n
 |f::fs,n=>aKe fs (aDz f n)
def aQp:Lv->Nat->Prop
 |.behind,n=>1<=n
 |.brk,n=>1<=n
 |_,_=>True
def wP(K:Nat):Fr->Nat->Nat->Prop
 |.m l,n,_=>aQp l n
 |.sign _,_,_=>True
 |.made _ f,n,_=>f<=n
 |.right _ _ _,n,_=>1<=n
 |.left _ _,n,_=>1<=n
 |.once _ _,n,_=>1<=n
 |.list _ _ _ f,n,_=>f<=n
 |.more x f,n,m=>f<=n/\x.arms.length+m<=K
def lL(K:Nat):List Fr->Nat->Nat->Prop
 |[],_,_=>True
 |f::fs,n,m=>wP K f n m/\lL K fs (aDz f n) m
theorem wP.mono{K:Nat}{f:Fr}{n m m':Nat}(h:wP K f n m)(hm:m'<=m):wP K f n m':=by
 cases f<;>first|exact h|exact⟨h.1,by have:=h.2;omega⟩
theorem lL.mono{K m m':Nat}(hm:m'<=m):∀{fs:List Fr}{n:Nat},lL K fs n m->lL K fs n m'
 |[],n,h=>trivial
 |f::fs,n,h=>⟨h.1.mono hm,lL.mono hm h.2⟩
theorem lL.append{K m:Nat}{gs:List Fr}:∀{fs:List Fr}{n:Nat},lL K fs n m->lL K gs (aKe fs n) m->lL K (fs++gs) n m
 |[],n,h,k=>k
 |f::fs,n,h,k=>⟨h.1,lL.append h.2 k⟩
def iO(K:Nat)(W H n sz m:Nat)(o:jK):Prop:=match o with
 |.ok z r2=>pZ z.1+64*r2.length+1<=W+64*m/\z.2.2<=sz+1/\z.2.1.length<=n+1/\r2.length<=m/\lL K z.1 z.2.1.length r2.length/\aKe z.1 z.2.1.length=H
 |.bad _=>True
theorem iO.bind{α:Type}{K W H n sz m:Nat}{x:PR α}{g:α->List Tk->jK}(h:∀a r2,x=.ok a r2->iO K W H n sz m (g a r2)):iO K W H n sz m (x.bind g):=by
 cases x with
 |ok a r2=>exact h a r2 rfl
 |bad q=>trivial
theorem aV0{x:Ex}{f:Nat}{ps:List Ex}{sz:Nat}(hf:f<=ps.length):(qR x f ps sz).length=f+1:=by
 simp[qR];omega
section
variable {K:Nat}{ps:List Ex}{sz:Nat}{r:List Tk}
theorem aFc(x:Ex)(f W m:Nat)(hf:f<=ps.length)(hr:r.length<=m)(hW:1+64*r.length<=W+64*m):iO K W (f+1) ps.length sz m (jR x f ps sz r):=by
 refine⟨?_,Yh _,?_,hr,trivial,aV0 hf⟩
 . show 0+64*r.length+1<=_;omega
 . show(qR x f ps sz).length<=_;rw[aV0 hf];omega
theorem aXp(x:Ex)(f W m:Nat)(hf:f<=ps.length)(he:aU r)(hr:r.length+1<=m)(hW:1<=W):iO K W (f+1) ps.length sz m (lB x f ps sz r):=by
 unfold lB;split
 . rename_i hi
   have:=(dE he hi).2
   refine⟨?_,by show sz<=sz+1;omega,by show ps.length<=_;omega,by show r.tail.length<=m;omega,⟨trivial,?_,trivial⟩,rfl⟩
   . show 4+64*r.tail.length+1<=_;omega
   . show f<=ps.length+1;omega
 . refine⟨?_,by show sz<=sz+1;omega,by show ps.length<=_;omega,by show r.length<=m;omega,⟨hf,trivial⟩,rfl⟩;show 1+64*r.length+1<=_;omega
theorem bA9(x:Ex)(f W m:Nat)(hf:f<=ps.length)(he:aU r)(hr:r.length<=m)(hx:x.arms.length+m<=K)(hW:1<=W):iO K W (f+1) ps.length sz m (rC x f ps sz r):=by
 unfold rC;refine iO.bind fun u r1 h1=>?_;obtain⟨e1,l1⟩:=oI he h1;refine iO.bind fun a r2 h2=>?_;obtain⟨e2,l2⟩:=aCb e1 h2;refine iO.bind fun v r3 h3=>?_;obtain⟨e3,l3⟩:=oI e2 h3;refine⟨?_,by show sz<=sz+1;omega,by show ps.length<=_;omega,by show r3.length<=m;omega,⟨trivial,trivial,⟨?_,?_⟩,trivial⟩,rfl⟩
 . show 20+64*r3.length+1<=_;omega
 . show f<=ps.length+1;omega
 . have:(rZ x a).arms.length=x.arms.length+1:=by cases x;simp[rZ,Ex.arms]
   rw[this];show x.arms.length+1+r3.length<=K;omega
theorem bXd(he:aU r)(hK:r.length<=K):iO K 1 (ps.length+1) ps.length sz r.length (oY ps sz r):=by
 unfold oY;split
 . rename_i hi
   have:=(dE he hi).2
   refine⟨?_,by show sz<=sz+1;omega,by show ps.length<=_;omega,by show r.tail.length<=_;omega,⟨trivial,?_,trivial⟩,rfl⟩
   . show 20+64*r.tail.length+1<=_;omega
   . show 1<=ps.length+1;omega
 split
 . rename_i hi
   have:=(dE he hi).2
   refine⟨?_,by show sz<=sz+1;omega,by show ps.length<=_;omega,by show r.tail.length<=_;omega,⟨trivial,?_,trivial⟩,rfl⟩
   . show 19+64*r.tail.length+1<=_;omega
   . show ps.length<=ps.length+1;omega
 split
 . rename_i hi
   have:=(dE he hi).2
   refine⟨?_,by show sz<=sz+1;omega,by show ps.length<=_;omega,by show r.tail.length<=_;omega,⟨trivial,trivial,trivial,trivial,trivial,?_,trivial⟩,rfl⟩
   . show 57+64*r.tail.length+1<=_;omega
   . show ps.length<=ps.length+1+1+1;omega
 split
 . rename_i hi;obtain⟨e0,l0⟩:=dE he hi;unfold aAn;refine iO.bind fun s r1 h1=>?_;obtain⟨e1,l1⟩:=tC e0 h1;exact bA9 _ _ _ _ (Yh _) e1 aA (by show 0+_<=K;omega) (Yh _)
 split
 . unfold xY;refine iO.bind fun s r1 h1=>?_;obtain⟨e1,l1⟩:=tC he h1;split
   . rename_i hi;obtain⟨e2,l2⟩:=dE e1 hi;unfold aDf;split
     . rename_i hj;obtain⟨e3,l3⟩:=dE e2 hj;exact aXp _ _ _ _ (Yh _) e3 aA (Yh _)
     . refine⟨?_,by show sz<=sz+1;omega,by show ps.length<=_;omega,by show r1.tail.length<=_;omega,⟨trivial,?_,trivial⟩,rfl⟩
       . show 19+64*r1.tail.length+1<=_;omega
       . show ps.length<=ps.length+1;omega
   . exact aFc _ _ _ _ (Yh _) aA aA
 . unfold uI;cases hp:dK r with
   |none=>trivial
   |some z=>
    obtain⟨e1,l1,_,_⟩:=aMq he hp;exact aFc _ _ _ _ (Yh _) aA aA
theorem bPf(he:aU r)(hn:1<=ps.length):iO K 1 ps.length ps.length sz r.length (qG ps sz r):=by
 unfold qG;split
 . rename_i hi
   have:=(dE he hi).2
   refine⟨?_,by show sz<=sz+1;omega,by show ps.length<=_;omega,by show r.tail.length<=_;omega,⟨trivial,trivial,?_,?_,trivial⟩,?_⟩
   . show 21+64*r.tail.length+1<=_;omega
   . show ps.length-1<=ps.length+1;omega
   . show 1<=ps.length-1+1;omega
   . exact aC4
 split
 . rename_i hi;obtain⟨e0,l0⟩:=dE he hi;refine iO.bind fun z r1 h1=>?_;obtain⟨e1,l1⟩:=aIa e0 h1;refine⟨?_,by show sz<=sz+1;omega,by show ps.length<=_;omega,by show r1.length<=_;omega,⟨?_,?_,trivial⟩,?_⟩
   . show 2+64*r1.length+1<=_;omega
   . show ps.length-1<=ps.length;omega
   . show 1<=ps.length-1+1;omega
   . exact aC4
 . refine⟨?_,by show sz<=sz+1;omega,by show ps.length<=_;omega,Yh _,trivial,rfl⟩;show 0+64*r.length+1<=_;omega
theorem cA0(he:aU r)(hn:1<=ps.length):iO K 2 ps.length ps.length sz r.length (tX ps sz r):=by
 unfold tX;split
 . rename_i hi
   have:=(dE he hi).2
   refine⟨?_,by show sz<=sz+1;omega,by show ps.length<=_;omega,by show r.tail.length<=_;omega,⟨trivial,trivial,trivial,trivial,trivial,?_,trivial,trivial⟩,?_⟩
   . show 41+64*r.tail.length+1<=_;omega
   . show ps.length-1<=ps.length+1+1;omega
   . exact aC4
 . refine⟨?_,by show sz<=sz+1;omega,by show ps.length<=_;omega,Yh _,⟨trivial,trivial⟩,rfl⟩;show 1+64*r.length+1<=_;omega
theorem cCu(he:aU r):iO K 4 (ps.length+1) ps.length sz r.length (sW ps sz r):=by
 unfold sW;split
 . rename_i hi
   have:=(aB0 he hi).2
   exact bH0
 split
 . rename_i hi
   have:=(dE he hi).2
   exact bH0
 . refine⟨?_,by show sz<=sz+1;omega,by show ps.length<=_;omega,Yh _,⟨trivial,trivial⟩,rfl⟩;show 3+64*r.length+1<=_;omega
theorem yA(l:Lv)(f:Fr)(W:Nat)(hl:xB l ps.length=ps.length+1)(hn:aQp l ps.length)(hf:wP K f (ps.length+1) r.length)(ho:aDz f (ps.length+1)=ps.length+1)(hw:wL l+wF f+1<=W):iO K W (ps.length+1) ps.length sz r.length (.ok ([.m l,f],ps,sz) r):=by
 refine⟨?_,by show sz<=sz+1;omega,by show ps.length<=_;omega,Yh _,⟨hn,?_,trivial⟩,?_⟩
 . show wL l+(wF f+0)+64*r.length+1<=_;omega
 . show wP K f (xB l ps.length) r.length;rw[hl];exact hf
 . show aDz f (xB l ps.length)=_;rw[hl,ho]
theorem aMw(l:Lv){n:Nat}(h:1<=n):aQp l n:=by cases l<;>first|trivial|exact h
theorem aN5(l:Lv)(n:Nat):n<=xB l n:=by cases l<;>simp[xB]
theorem aN6(f:Fr)(he:aU r)(hK:r.length<=K)(hn:wP K f ps.length r.length):iO K (wF f) (aDz f ps.length) ps.length sz r.length (dG f ps sz r):=by
 have h1:1<=ps.length+1:=aA;cases f with
 |m l=>
  cases l with
  |arrow=>exact yA .fby _ 18 rfl trivial h1 rfl aF
  |fby=>exact yA .or _ 16 rfl trivial h1 rfl aF
  |or=>exact yA .and _ 14 rfl trivial h1 rfl aF
  |and=>exact yA .cmp _ 12 rfl trivial h1 rfl aF
  |cmp=>exact yA .sum _ 10 rfl trivial h1 rfl aF
  |sum=>exact yA .prod _ 8 rfl trivial h1 rfl aF
  |prod=>exact yA .un _ 6 rfl trivial h1 rfl aF
  |un=>exact cCu he
  |post=>exact yA .atom _ 3 rfl trivial h1 rfl aF
  |atom=>exact bXd he hK
  |behind=>exact bPf he hn
  |brk=>exact cA0 he hn
 |sign s=>
  refine iO.bind fun u r1 h1=>?_;obtain⟨e1,l1⟩:=oI he h1;refine⟨?_,by show sz<=sz+1;omega,by show ps.length<=_;omega,by show r1.length<=_;omega,trivial,rfl⟩;show 0+64*r1.length+1<=_;omega
 |made x f=>exact aFc x f _ _ hn (Yh _) (Yh _)
 |right s k o=>
  have hn:1<=ps.length:=hn;show iO _ _ _ _ _ _ (if aG s r=true then _ else _);split
  . rename_i hi
    have:=(dE he hi).2
    have:=aQo o
    have:=aN5 o ps.length
    refine⟨?_,by show sz<=sz+1;omega,by show ps.length<=_;omega,by show r.tail.length<=_;omega,⟨aMw o hn,?_,trivial⟩,?_⟩
    . show wL o+1+64*r.tail.length+1<=_;omega
    . show ps.length-1<=xB o ps.length;omega
    . exact aC4
  . exact aPj
 |left Ae Aa=>
  have hn:1<=ps.length:=hn;show iO _ _ _ _ _ _ (if cR Ae r≠0 then _ else _);split
  . rename_i hi
    have:=(aB0 he hi).2
    have:=aQo Aa
    have:=aN5 Aa ps.length
    refine⟨?_,by show sz<=sz+1;omega,by show ps.length<=_;omega,by show r.tail.length<=_;omega,⟨aMw Aa hn,?_,?_,trivial⟩,?_⟩
    . show wL Aa+2+64*r.tail.length+1<=_;omega
    . show ps.length-1<=xB Aa ps.length;omega
    . show 1<=ps.length-1+1;omega
    . exact aC4
  . exact aPj
 |once Ae Aa=>
  have hn:1<=ps.length:=hn;show iO _ _ _ _ _ _ (if cR Ae r≠0 then _ else _);split
  . rename_i hi
    have:=(aB0 he hi).2
    have:=aQo Aa
    have:=aN5 Aa ps.length
    refine⟨?_,by show sz<=sz+1;omega,by show ps.length<=_;omega,by show r.tail.length<=_;omega,⟨aMw Aa hn,?_,trivial⟩,?_⟩
    . show wL Aa+1+64*r.tail.length+1<=_;omega
    . show ps.length-1<=xB Aa ps.length;omega
    . exact aC4
  . exact aPj
 |list Aq ev x f=>
  have hn:f<=ps.length:=hn;show iO _ _ _ _ _ _ (if aG [44] r=true then _ else _);split
  . rename_i hi
    have:=(dE he hi).2
    refine⟨?_,by show sz<=sz+1;omega,by show ps.length<=_;omega,by show r.tail.length<=_;omega,⟨trivial,?_,trivial⟩,rfl⟩
    . show 19+64*r.tail.length+1<=_;omega
    . show f<=ps.length+1;omega
  . refine iO.bind fun u r1 h1=>?_;obtain⟨e1,l1⟩:=oI he h1;unfold yM;split;· exact aXp x f _ _ hn e1 aA (Yh _)
    . exact aFc x f _ _ hn aA (by show 1+64*r1.length<=1+64*r.length;omega)
 |more x f=>
  obtain⟨hn,hx⟩:=hn;show iO _ _ _ _ _ _ (if aG [40] r=true then _ else _);split;· exact bA9 x f _ _ hn he (Yh _) hx (Yh _)
  . exact aFc x f _ _ hn (Yh _) (Yh _)
end
def TG(M:Nat)(r:List Tk):Prop:=∀t∈r,t.s.length<=M
def GX(M:Nat)(x:Ex):Prop:=x.s.size<=M/\∀t∈x.arms,t.size<=M
def sT(M:Nat)(x:Ex):Prop:=∀p∈bP x,GX M p/\p.arms.length<=p.subs.length+1
def FG(M n:Nat):Fr->Prop
 |.made x _=>GX M x/\x.arms.length<=1
 |.list _ _ x _=>GX M x/\x.arms.length<=1
 |.more x f=>GX M x/\x.arms.length+f=n
 |_=>True
def uC(M:Nat):List Fr->Nat->Prop
 |[],_=>True
 |f::fs,n=>FG M n f/\uC M fs (aDz f n)
theorem uC.append{M:Nat}{gs:List Fr}:∀{fs:List Fr}{n:Nat},uC M fs n->uC M gs (aKe fs n)->uC M (fs++gs) n
 |[],n,h,k=>k
 |f::fs,n,h,k=>⟨h.1,uC.append h.2 k⟩
theorem aE1(s:LU):(aB s).size=s.length:=by simp[aB,ByteArray.size]
theorem aT4{p:Ex}:∀{l:List Ex},p∈eL l->∃y∈l,p∈bP y
 |[],h=>by simp[eL]at h
 |y::l,h=>by
  simp only[eL,Zr]at h;rcases h with h|h;· exact⟨y,Zc,h⟩
  . obtain⟨z,hz,hp⟩:=aT4 h;exact⟨z,Zi _ hz,hp⟩
theorem bPg{M:Nat}{x:Ex}{l:List Ex}(hx:GX M x)(ha:x.arms.length<=l.length+1)(hl:∀y∈l,sT M y):sT M (nI x l):=by
 cases x with
 |mk k n s op a o=>
  intro p hp;simp only[nI,bP,Yw]at hp;rcases hp with rfl|hp;· exact⟨hx,ha⟩
  . obtain⟨y,hy,hp⟩:=aT4 hp;exact hl y hy p hp
section
variable {M:Nat}{ps:List Ex}{sz:Nat}{r:List Tk}
theorem TG.tail(h:TG M r):TG M r.tail:=fun t ht=>h t (List.mem_of_mem_tail ht)
theorem aN7{s:LU}{r1:List Tk}{u:Unit}(h:TG M r)(hn:aR s r=.ok u r1):TG M r1:=by
 unfold aR at hn;split at hn
 . injection hn with _ hn;subst hn;exact h.tail
 . cases hn
theorem aFd{s:LU}{r1:List Tk}(h:TG M r)(hn:bT r=.ok s r1):TG M r1/\s.length<=M:=by
 match r,h,hn with
 |t::r',h,hn=>
  simp only[bT]at hn;exact bDa
 |[],h,hn=>cases hn
theorem aOw(hM:5<=M){s:LU}{r1:List Tk}(h:TG M r)(hn:fO r=.ok s r1):TG M r1/\s.length<=M:=by
 unfold fO at hn;split at hn
 . injection hn with hs hn;subst hn hs;exact⟨h.tail,by show 4<=M;omega⟩
 . split at hn
   . injection hn with hs hn;subst hn hs;exact⟨h.tail,by show 5<=M;omega⟩
   . match r,h,hn with
     |t::r',h,hn=>
      simp only at hn;exact bDa
     |[],h,hn=>cases hn
theorem aZo(hM:5<=M){z:List UInt8 × List UInt8}{r1:List Tk}(h:TG M r)(hn:dU r=.ok z r1):TG M r1/\z.1.length<=M/\z.2.length<=M:=by
 unfold dU at hn;split at hn
 . obtain⟨n,r2,Bm,he⟩:=rQ hn;injection he with Aa he;subst he Aa;have h2:=aFd h.tail Bm;exact⟨h2.1,h2.2,by show 5<=M;omega⟩
 . split at hn
   . obtain⟨a,r2,ha,hn⟩:=rQ hn;obtain⟨u,r3,hu,hn⟩:=rQ hn;obtain⟨n,r4,Bm,hn⟩:=rQ hn;obtain⟨v,r5,hv,hn⟩:=rQ hn;injection hn with Ae hn;subst hn Ae;have h1:=aOw hM h ha;have h2:=aN7 h1.1 hu;have h3:=aFd h2 Bm;have h4:=aN7 h3.1 hv;exact⟨h4,h3.2,h1.2⟩
   . obtain⟨n,r2,Bm,he⟩:=rQ hn;injection he with Aa he;subst he Aa;have h2:=aFd h Bm;exact⟨h2.1,h2.2,by show 4<=M;omega⟩
theorem aXq{z:Ex × List Tk}(h:TG M r)(hn:dK r=some z):TG M z.2/\GX M z.1/\z.1.arms=[]:=by
 match r,h,hn with
 |t::r',h,hn=>
  have ht:=h t Zc;have g0:∀k n op,GX M (Ex.mk k n ByteArray.empty op [] []):=fun k n op=>⟨Ys _,fun t ht=>absurd ht Yl⟩;have g1:∀k n op,GX M (Ex.mk k n (aB t.s) op [] []):=fun k n op=>⟨by show(aB t.s).size<=M;rw[aE1];exact ht,fun t ht=>absurd ht Yl⟩;simp only[dK]at hn;split at hn;· exact aP9
  . split at hn;· injection hn with hn;subst hn;exact⟨h.tail,g1 _ _ _,rfl⟩
    . split at hn;· injection hn with hn;subst hn;exact⟨h.tail,g1 _ _ _,rfl⟩
      . split at hn;· exact aP9
        . split at hn;· exact aP9
          . cases hn
 |[],h,hn=>cases hn
def TE(M:Nat)(r:List Tk):Prop:=TG M r/\aU r
theorem sC{s:LU}(h:TE M r)(hi:aG s r=true):TE M r.tail:=⟨h.1.tail,(dE h.2 hi).1⟩
theorem aZp{Aa:List (Int × List UInt8)}(h:TE M r)(hi:cR Aa r≠0):TE M r.tail:=⟨h.1.tail,(aB0 h.2 hi).1⟩
theorem aIv{s:LU}{r1:List Tk}{u:Unit}(h:TE M r)(hn:aR s r=.ok u r1):TE M r1:=⟨aN7 h.1 hn,(oI h.2 hn).1⟩
theorem aZq{s:LU}{r1:List Tk}(h:TE M r)(hn:bT r=.ok s r1):TE M r1/\s.length<=M:=⟨⟨(aFd h.1 hn).1,(tC h.2 hn).1⟩,(aFd h.1 hn).2⟩
theorem cA1(hM:5<=M){s:LU}{r1:List Tk}(h:TE M r)(hn:fO r=.ok s r1):TE M r1/\s.length<=M:=⟨⟨(aOw hM h.1 hn).1,(aCb h.2 hn).1⟩,(aOw hM h.1 hn).2⟩
theorem bXe(hM:5<=M){z:List UInt8 × List UInt8}{r1:List Tk}(h:TE M r)(hn:dU r=.ok z r1):TE M r1/\z.1.length<=M/\z.2.length<=M:=⟨⟨(aZo hM h.1 hn).1,(aIa h.2 hn).1⟩,(aZo hM h.1 hn).2⟩
theorem bTy{z:Ex × List Tk}(h:TE M r)(hn:dK r=some z):TE M z.2/\GX M z.1/\z.1.arms=[]:=⟨⟨(aXq h.1 hn).1,(aMq h.2 hn).1⟩,(aXq h.1 hn).2⟩
def SG(M sz:Nat)(o:jK):Prop:=match o with
 |.ok z r2=>uC M z.1 z.2.1.length/\(z.2.2<=60->∀y∈z.2.1,sT M y)/\sz<=z.2.2/\TE M r2
 |.bad _=>True
theorem SG.bind{α:Type}{x:PR α}{g:α->List Tk->jK}(h:∀a r2,x=.ok a r2->SG M sz (g a r2)):SG M sz (x.bind g):=by
 cases x with
 |ok a r2=>exact h a r2 rfl
 |bad q=>trivial
theorem gx0(k op:Int)(n:Int):GX M (Ex.mk k n ByteArray.empty op [] []):=⟨Ys _,fun t ht=>absurd ht Yl⟩
theorem gxs{s:LU}(h:s.length<=M)(k op:Int)(n:Int):GX M (Ex.mk k n (aB s) op [] []):=⟨by show(aB s).size<=M;rw[aE1];exact h,fun t ht=>absurd ht Yl⟩
theorem aFe{x:Ex}{f:Nat}(hx:GX M x)(hf:f<=ps.length)(ha:x.arms.length<=ps.length-f+1)(hp:sz<=60->∀y∈ps,sT M y)(hr:TE M r):SG M sz (jR x f ps sz r):=by
 refine⟨trivial,fun hz y hy=>?_,Nat.le_succ _,hr⟩;have Aa:sz+1<=60:=hz;have Iq:=hp aA;simp only[qR,if_pos Aa,Zr,Yp]at hy;rcases hy with hy|rfl;· exact Iq y (List.mem_of_mem_take hy)
 . exact bPg hx cP fun y hy=>Iq y (List.mem_of_mem_drop hy)
theorem aXr{x:Ex}{f:Nat}(hx:GX M x)(ha:x.arms.length<=1)(hp:sz<=60->∀y∈ps,sT M y)(hr:TE M r):SG M sz (lB x f ps sz r):=by
 unfold lB;split
 . refine⟨⟨trivial,⟨?_,?_⟩,trivial⟩,hp,Yh _,sC hr mY⟩;· cases x;exact hx
   . cases x;exact ha
 . exact⟨⟨⟨hx,ha⟩,trivial⟩,hp,Yh _,hr⟩
theorem bBa(hM:5<=M){x:Ex}{f:Nat}(hx:GX M x)(ha:x.arms.length+f=ps.length)(hp:sz<=60->∀y∈ps,sT M y)(hr:TE M r):SG M sz (rC x f ps sz r):=by
 unfold rC;refine SG.bind fun u r1 h1=>?_;have t1:=aIv hr h1;refine SG.bind fun a r2 h2=>?_;have t2:=cA1 hM t1 h2;refine SG.bind fun v r3 h3=>?_;have t3:=aIv t2.1 h3;refine⟨⟨trivial,trivial,⟨?_,?_⟩,trivial⟩,hp,Yh _,t3⟩
 . cases x with
   |mk k n s op l o=>
    refine⟨hx.1,fun t ht=>?_⟩;have Aa:t∈l++[aB a]:=ht;rcases Zr.1 Aa with h|h;· exact hx.2 t h
    . rw[Yp.1 h,aE1];exact t2.2
 . cases x with
   |mk k n s op l o=>
    show(l++[aB a]).length+f=ps.length+1
    have:l.length+f=ps.length:=ha
    simp;omega
theorem bXf(hM:5<=M)(hp:sz<=60->∀y∈ps,sT M y)(hr:TE M r):SG M sz (oY ps sz r):=by
 unfold oY;split;· exact⟨⟨trivial,trivial,trivial⟩,hp,Yh _,sC hr mY⟩
 split;· exact aPp
 split;· exact⟨⟨trivial,trivial,trivial,trivial,trivial,⟨gx0 _ _ _,Ys _⟩,trivial⟩,hp,Yh _,sC hr mY⟩
 split
 . unfold aAn;refine SG.bind fun s r1 h1=>?_;have t1:=aZq (sC hr mY) h1;exact bBa hM (gxs t1.2 _ _ _) (by show 0+ps.length=_;omega) hp t1.1
 split
 . unfold xY;refine SG.bind fun s r1 h1=>?_;have t1:=aZq hr h1;split
   . unfold aDf;split;· exact aXr (gxs t1.2 _ _ _) (Ys _) hp (sC (sC t1.1 mY) mY)
     . exact⟨⟨trivial,⟨gxs t1.2 _ _ _,Ys _⟩,trivial⟩,hp,Yh _,(sC t1.1 mY)⟩
   . exact aFe (gxs t1.2 _ _ _) (Yh _) (Ys _) hp t1.1
 . unfold uI;cases Aa:dK r with
   |none=>trivial
   |some z=>
    obtain⟨g1,g2,g3⟩:=bTy hr Aa;exact aFe g2 (Yh _) (by rw[g3];exact Ys _) hp g1
theorem aZr(hM:5<=M){K:Nat}(f:Fr)(hn:wP K f ps.length r.length)(hf:FG M ps.length f)(hp:sz<=60->∀y∈ps,sT M y)(hr:TE M r):SG M sz (dG f ps sz r):=by
 cases f with
 |m l=>
  cases l with
  |un=>
   show SG M sz (sW ps sz r);unfold sW;split;· exact bDi
   split;· exact aPp
   . exact⟨⟨trivial,trivial⟩,hp,Yh _,hr⟩
  |atom=>exact bXf hM hp hr
  |behind=>
   show SG M sz (qG ps sz r);unfold qG;split;· exact⟨⟨trivial,trivial,⟨gx0 _ _ _,Ys _⟩,trivial,trivial⟩,hp,Yh _,sC hr mY⟩
   split
   . refine SG.bind fun z r1 h1=>?_;obtain⟨t1,t2,t3⟩:=bXe hM (sC hr mY) h1;refine⟨⟨⟨⟨by show(aB z.1).size<=M;rw[aE1];exact t2,fun t ht=>?_⟩,Yh _⟩,trivial,trivial⟩,hp,Yh _,t1⟩;have Bs:t∈[aB z.2]:=ht;rw[Yp.1 Bs,aE1];exact t3
   . exact aJ4
  |brk=>
   show SG M sz (tX ps sz r);unfold tX;split;· exact⟨⟨trivial,trivial,trivial,trivial,trivial,⟨gx0 _ _ _,Ys _⟩,trivial,trivial⟩,hp,Yh _,sC hr mY⟩
   . exact⟨⟨trivial,trivial⟩,hp,Yh _,hr⟩
  |_=>exact⟨⟨trivial,trivial,trivial⟩,hp,Yh _,hr⟩
 |sign s=>
  refine SG.bind fun u r1 h1=>?_;exact⟨trivial,hp,Yh _,aIv hr h1⟩
 |made x f=>exact aFe hf.1 hn (by have:=hf.2;omega) hp hr
 |right s k o=>
  show SG M sz (if aG s r=true then _ else _);split;· exact aPp
  . exact aJ4
 |left Aa Ae=>
  show SG M sz (if cR Aa r≠0 then _ else _);split;· exact⟨⟨trivial,⟨gx0 _ _ _,Ys _⟩,trivial,trivial⟩,hp,Yh _,aZp hr mY⟩
  . exact aJ4
 |once Aa Ae=>
  show SG M sz (if cR Aa r≠0 then _ else _);split;· exact bDi
  . exact aJ4
 |list Aq ev x f=>
  show SG M sz (if aG [44] r=true then _ else _);split;· exact⟨⟨trivial,⟨hf.1,hf.2⟩,trivial⟩,hp,Yh _,sC hr mY⟩
  . refine SG.bind fun u r1 h1=>?_;have t1:=aIv hr h1;unfold yM;split;· exact aXr hf.1 hf.2 hp t1
    . exact aFe hf.1 hn (by have:=hf.2;omega) hp t1
 |more x f=>
  have h3:x.arms.length+f=ps.length:=hf.2;show SG M sz (if aG [40] r=true then _ else _);split;· exact bBa hM hf.1 hf.2 hp hr
  . exact aFe hf.1 hn.1 aA hp hr
end
theorem aHt{res:PR (List Ex × Nat)->Prop}:∀{k:Nat}{fs:List Fr}{ps:List Ex}{sz:Nat}{r:List Tk},rD k fs ps sz r res->∃o,res o
 |0,fs,ps,sz,r,h=>⟨_,h.2⟩
 |k+1,[],ps,sz,r,h=>h.elim
 |k+1,f::fs,ps,sz,r,h=>by
  simp only[rD]at h;split at h;· exact aHt h
  . exact⟨_,h⟩
mutual
theorem aT5{p:Ex}:∀{x:Ex},p∈bP x->aT p<=aT x
 |.mk k n s op a l,h=>by
  simp only[bP,Yw]at h;rcases h with rfl|h;· exact Yh _
  . have:=aS1 h
    simp only[aT];omega
theorem aS1{p:Ex}:∀{l:List Ex},p∈eL l->aT p<=bW l
 |[],h=>by simp[eL]at h
 |y::l,h=>by
  simp only[eL,Zr]at h;simp only[bW];rcases h with h|h
  . have:=aT5 h
    omega
  . have:=aS1 h
    omega
end
theorem aT6:∀l:List Ex,l.length<=bW l
 |[]=>Yh 0
 |y::l=>by
  have:=aT6 l
  have:=vW y
  simp only[Yq,bW];omega
theorem bPh(p:Ex):p.subs.length<aT p:=by
 cases p with
 |mk k n s op a l=>
  have:=aT6 l
  show l.length<aT (Ex.mk k n s op a l);rw[pG];omega
theorem aV1{M K:Nat}(hM:5<=M){res:PR (List Ex × Nat)->Prop}:∀(k:Nat)(fs:List Fr)(ps:List Ex)(sz:Nat)(r:List Tk),rD k fs ps sz r res->r.length<=K->lL K fs ps.length r.length->uC M fs ps.length->(sz<=60->∀y∈ps,sT M y)->TE M r->
 rD k fs ps sz r fun o=>res o/\match o with
  |.ok z _=>z.2<=60->∀y∈z.1,sT M y
  |.bad _=>True
 |0,fs,ps,sz,r,h,hK,Eu,Aa,hp,hr=>⟨h.1,h.2,hp⟩
 |k+1,[],ps,sz,r,h,hK,Eu,Aa,hp,hr=>h
 |k+1,f::fs,ps,sz,r,h,hK,Eu,Aa,hp,hr=>by
  have Ax:=aN6 (sz:=sz) f hr.2 hK Eu.1;have Ae:=aZr hM f Eu.1 Aa.1 hp hr;simp only[rD]at h⊢;cases hs:dG f ps sz r with
  |bad q=>
   rw[hs]at h;exact⟨h,trivial⟩
  |ok z r2=>
   rw[hs]at h Ax Ae;obtain⟨o1,o2,o3,o4,o5,o6⟩:=Ax;obtain⟨g1,g2,g3,g4⟩:=Ae;exact aV1 hM k _ _ _ _ h aA (lL.append o5 bB6) (uC.append g1 (by rw[o6];exact Aa.2)) g2 g4
theorem bMq{M N:Nat}{r r1:List Tk}{x:Ex}(hM:5<=M)(Ae:M<=7000)(hr:TE M r)(hN:r.length<=N)(hp:(aV N).ar r=.ok x r1)(hz:aT x<=60):∀p∈bP x,eS p:=by
 obtain⟨k,h⟩:=aG4 hr.2 hN;have h2:=aV1 (K:=r.length) hM k [.m .arrow] [] 0 r h (Yh _) ⟨trivial,trivial⟩ ⟨trivial,trivial⟩ (fun _ y hy=>absurd hy Yl) hr;have h3:∃ res:PR (List Ex × Nat),(match (aV N).ar r with
  |.ok x r1=>∃x1,res=.ok ([x1],aT x) r1/\aU r1/\r1.length<r.length/\(aT x<=60->x1=x)
  |.bad r1=>res=.bad r1)/\match res with
  |.ok z _=>z.2<=60->∀y∈z.1,sT M y
  |.bad _=>True:=aHt h2
 obtain⟨res,h4,h5⟩:=h3;rw[hp]at h4;obtain⟨x1,rfl,_,_,h6⟩:=h4;have h7:=h5 hz x1 (Yp.2 rfl);rw[h6 hz]at h7;intro p hp;obtain⟨⟨g1,g2⟩,g3⟩:=h7 p hp;have Au:aT p<=aT x:=aT5 hp;have Aa:p.subs.length<aT p:=bPh p;exact⟨by omega,fun t ht=>by have:=g2 t ht;omega,by omega⟩
section
variable {ps:List Ex}{sz:Nat}{r:List Tk}
theorem aXs{s:LU}{q:List Tk}(h:aU r)(hn:aR s r=.bad q):aU q:=by
 unfold aR at hn;exact aP3
theorem aXt{q:List Tk}(h:aU r)(hn:bT r=.bad q):aU q:=by
 match r,h,hn with
 |t::r',h,hn=>
  simp only[bT]at hn;exact aP3
 |[],h,hn=>
  injection hn with hn;subst hn;exact h
theorem bXg{q:List Tk}(h:aU r)(hn:fO r=.bad q):aU q:=by
 unfold fO at hn;split at hn;· cases hn
 . split at hn;· cases hn
   . match r,h,hn with
     |t::r',h,hn=>
      simp only at hn;exact aP3
     |[],h,hn=>
      injection hn with hn;subst hn;exact h
def BE{α:Type}(x:PR α):Prop:=match x with
 |.bad q=>aU q
 |.ok _ _=>True
theorem BE.bind{α β:Type}{x:PR α}{g:α->List Tk->PR β}(hx:BE x)(hg:∀a r1,x=.ok a r1->BE (g a r1)):BE (x.bind g):=by
 cases x with
 |ok a r1=>exact hg a r1 rfl
 |bad q=>exact hx
theorem aCd{s:LU}(h:aU r):BE (aR s r):=by
 cases hn:aR s r with
 |ok a r1=>trivial
 |bad q=>exact aXs h hn
theorem aFf(h:aU r):BE (bT r):=by
 cases hn:bT r with
 |ok a r1=>trivial
 |bad q=>exact aXt h hn
theorem bBb(h:aU r):BE (fO r):=by
 cases hn:fO r with
 |ok a r1=>trivial
 |bad q=>exact bXg h hn
theorem aZs(h:aU r):BE (dU r):=by
 unfold dU;split
 . rename_i hi;exact(aFf (dE h hi).1).bind fun _ _ _=>trivial
 . split
   . refine(bBb h).bind fun a r1 h1=>?_;have e1:=(aCb h h1).1;refine(aCd e1).bind fun u r2 h2=>?_;have e2:=(oI e1 h2).1;refine(aFf e2).bind fun u r3 h3=>?_;have e3:=(tC e2 h3).1;exact(aCd e3).bind fun _ _ _=>trivial
   . exact(aFf h).bind fun _ _ _=>trivial
theorem aZt(x:Ex)(f:Nat)(h:aU r):BE (rC x f ps sz r):=by
 unfold rC;refine(aCd h).bind fun u r1 h1=>?_;have e1:=(oI h h1).1;unfold aGa;refine(bBb e1).bind fun a r2 h2=>?_;exact(aCd (aCb e1 h2).1).bind fun _ _ _=>trivial
theorem aXu(x:Ex)(f:Nat):BE (lB x f ps sz r):=by
 unfold lB;split<;>trivial
theorem bXh(h:aU r):BE (oY ps sz r):=by
 unfold oY;split;· trivial
 split;· trivial
 split;· trivial
 split
 . rename_i hi;unfold aAn;refine(aFf (dE h hi).1).bind fun s r1 h1=>?_;exact aZt _ _ (tC (dE h hi).1 h1).1
 split
 . unfold xY;refine(aFf h).bind fun s r1 h1=>?_;split
   . unfold aDf;split;· exact aXu _ _
     . trivial
   . trivial
 . unfold uI;cases dK r with
   |none=>exact h
   |some z=>trivial
theorem bTz(f:Fr)(h:aU r):BE (dG f ps sz r):=by
 cases f with
 |m l=>
  cases l with
  |un=>
   show BE (sW ps sz r);unfold sW;split;· trivial
   split<;>trivial
  |atom=>exact bXh h
  |behind=>
   show BE (qG ps sz r);unfold qG;split;· trivial
   split
   . rename_i hi;exact(aZs (dE h hi).1).bind fun _ _ _=>trivial
   . trivial
  |brk=>
   show BE (tX ps sz r);unfold tX;split<;>trivial
  |_=>trivial
 |sign s=>exact(aCd h).bind fun _ _ _=>trivial
 |made x f=>trivial
 |right s k o=>
  show BE (if aG s r=true then _ else _);split<;>trivial
 |left Aa Ae=>
  show BE (if cR Aa r≠0 then _ else _);split<;>trivial
 |once Aa Ae=>
  show BE (if cR Aa r≠0 then _ else _);split<;>trivial
 |list Aq ev x f=>
  show BE (if aG [44] r=true then _ else _);split;· trivial
  . refine(aCd h).bind fun u r1 h1=>?_;unfold yM;split;· exact aXu _ _
    . trivial
 |more x f=>
  show BE (if aG [40] r=true then _ else _);split;· exact aZt _ _ h
  . trivial
end
theorem aXv{M K:Nat}(hM:5<=M){res:PR (List Ex × Nat)->Prop}:∀(k:Nat)(fs:List Fr)(ps:List Ex)(sz:Nat)(r:List Tk),rD k fs ps sz r res->r.length<=K->lL K fs ps.length r.length->uC M fs ps.length->(sz<=60->∀y∈ps,sT M y)->TE M r->
 rD k fs ps sz r fun o=>res o/\match o with
  |.ok _ _=>True
  |.bad q=>aU q
 |0,fs,ps,sz,r,h,hK,Eu,Aa,hp,hr=>⟨h.1,h.2,trivial⟩
 |k+1,[],ps,sz,r,h,hK,Eu,Aa,hp,hr=>h
 |k+1,f::fs,ps,sz,r,h,hK,Eu,Aa,hp,hr=>by
  have Ax:=aN6 (sz:=sz) f hr.2 hK Eu.1;have Ae:=aZr hM f Eu.1 Aa.1 hp hr;have Aq:=bTz (ps:=ps) (sz:=sz) f hr.2;simp only[rD]at h⊢;cases hs:dG f ps sz r with
  |bad q=>
   rw[hs]at h Aq;exact⟨h,Aq⟩
  |ok z r2=>
   rw[hs]at h Ax Ae;obtain⟨o1,o2,o3,o4,o5,o6⟩:=Ax;obtain⟨g1,g2,g3,g4⟩:=Ae;exact aXv hM k _ _ _ _ h aA (lL.append o5 bB6) (uC.append g1 (by rw[o6];exact Aa.2)) g2 g4
theorem bT0{M N:Nat}{r q:List Tk}(hM:5<=M)(hr:TE M r)(hN:r.length<=N)(hp:(aV N).ar r=.bad q):aU q:=by
 obtain⟨k,h⟩:=aG4 hr.2 hN;have h2:=aXv (K:=r.length) hM k [.m .arrow] [] 0 r h (Yh _) ⟨trivial,trivial⟩ ⟨trivial,trivial⟩ (fun _ y hy=>absurd hy Yl) hr;have h3:∃ res:PR (List Ex × Nat),(match (aV N).ar r with
  |.ok x r1=>∃x1,res=.ok ([x1],aT x) r1/\aU r1/\r1.length<r.length/\(aT x<=60->x1=x)
  |.bad r1=>res=.bad r1)/\match res with
  |.ok _ _=>True
  |.bad q=>aU q:=aHt h2
 obtain⟨res,h4,h5⟩:=h3;rw[hp]at h4;have h6:res=.bad q:=h4;subst h6;exact h5
end Go.Proofs.YtagkcjpoipcpkaaGreatDoor
