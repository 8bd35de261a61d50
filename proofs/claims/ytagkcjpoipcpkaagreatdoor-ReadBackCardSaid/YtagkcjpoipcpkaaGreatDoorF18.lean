/- A part of the proof. Conditions: each theorem's own. -/
import Derived.Test.YtagkcjpoipcpkaaGreatDoorF17
namespace Go.Proofs.YtagkcjpoipcpkaaGreatDoor
set_option linter.unusedVariables false
set_option linter.unusedSimpArgs false
set_option maxRecDepth 100000
set_option maxHeartbeats 40000000
section
open Go.RowKit Go.Sort
def lvF:Lv->Nat
 |.arrow=>227
 |.fby=>248
 |.or=>264
 |.and=>275
 |.cmp=>284
 |.sum=>293
 |.prod=>298
 |.un=>300
 |.post=>302
 |.atom=>308
 |.behind=>309
 |.brk=>310
abbrev aN (K:Nat)(cap:AV):Value:=.func (.func K) #[] cap
abbrev bA (b:Nat)(l:Lv):Value:=.func (.func (lvF l)) #[rp b] #[]
def Fz(L:LN)(w:World)(p:Nat)(v:Value):Prop:=(fR L w).cell? ⟨p,0,none⟩=some v
def oR(L:LN)(w:World)(b eb f:Nat)(v:Value):Prop:=∃p0 p1 p2,v=aN 273 #[rp p0,rp p1,rp p2]/\Fz L w p0 (rp b)/\Fz L w p1 (rp eb)/\Fz L w p2 (.int .i64 (f:Int))
def jL(L:LN)(w:World)(eb:Nat)(x:Ex):Prop:=eb∈L/\x.subs=[]/\∃Aa ca,aX w eb x Aa ca none 0/\aS (fR L w) Aa x.arms.length x.arms
def aFb(L:LN)(w:World)(b eb f:Nat)(v:Value):Prop:=∃p0 p1 p2 vm,v=aN 321 #[rp p0,rp p1,rp p2]/\Fz L w p0 (rp b)/\Fz L w p1 vm/\oR L w b eb f vm/\Fz L w p2 (rp eb)
def xZ(L:LN)(w:World)(ev:Bool)(b eb f:Nat)(v:Value):Prop:=if ev=true then aFb L w b eb f v else oR L w b eb f v
def vP(L:LN)(w:World)(eb:Nat)(x:Ex)(ft:LN):Prop:=x.subs=[]/\∃Aa ca,aX w eb x Aa ca none 0/\w.ownsRow 0 9 1 (.slice Aa x.arms.length ca) x.arms.length (x.arms.map Value.string)/\ft=eb::(Value.slice Aa x.arms.length ca).ownBlock.toList/\∀k∈ft,k∈L
def aFo(L:LN)(w:World)(b eb f:Nat)(v:Value):Prop:=∃p0 p1 p2 p3 p4 vm,v=aN 318 #[rp p0,rp p1,rp p2]/\Fz L w p0 (rp b)/\Fz L w p1 (aN 319 #[rp p0,rp p3,rp p4])/\Fz L w p2 vm/\oR L w b eb f vm/\Fz L w p3 (rp eb)/\Fz L w p4 v
def sS(L:LN)(w:World)(b:Nat):Fr->Value->List Nat->Prop
 |.m l,v,ft=>ft=[]/\v=bA b l
 |.sign s,v,ft=>ft=[]/\fQ s/\∃p0 p1,v=aN 317 #[rp p0,rp p1]/\Fz L w p0 (rp b)/\Fz L w p1 (.string (aZ s))
 |.made x f,v,ft=>∃eb,ft=[eb]/\jL L w eb x/\oR L w b eb f v
 |.right s k o,v,ft=>ft=[]/\fQ s/\∃p0 p1 p2 p3,v=aN 262 #[rp p0,rp p1,rp p2,rp p3]/\Fz L w p0 (rp b)/\Fz L w p1 (.string (aZ s))/\Fz L w p2 (bA b o)/\Fz L w p3 (.int .i64 k)
 |.left Aq Aa,v,ft=>ft=[]/\∃zs,gY zs=Aq/\qS zs/\∃p0 p1 p2 p3 g c1,v=aN 281 #[rp p0,rp p1,rp p2,rp p3]/\Fz L w p0 (rp b)/\Fz L w p1 (.slice (some ⟨g,0,none⟩) zs.length c1)/\(∀i,i<zs.length->(fR L w).cell? ⟨g,i,none⟩=some (.int .i64 (zs[i]?.getD default).1))/\Fz L w p2 (bA b Aa)/\Fz L w p3 v
 |.once Aq Aa,v,ft=>ft=[]/\∃zs,gY zs=Aq/\qS zs/\∃p0 p1 p2 g c1,v=aN 297 #[rp p0,rp p1,rp p2]/\Fz L w p0 (rp b)/\Fz L w p1 (.slice (some ⟨g,0,none⟩) zs.length c1)/\(∀i,i<zs.length->(fR L w).cell? ⟨g,i,none⟩=some (.int .i64 (zs[i]?.getD default).1))/\Fz L w p2 (bA b Aa)
 |.list Ae ev x f,v,ft=>∃eb,ft=[eb]/\jL L w eb x/\fQ Ae/\∃p0 p1 p2 p3 vt,v=aN 316 #[rp p0,rp p1,rp p2,rp p3]/\Fz L w p0 (rp b)/\Fz L w p1 v/\Fz L w p2 (.string (aZ Ae))/\Fz L w p3 vt/\xZ L w ev b eb f vt
 |.more x f,v,ft=>∃eb,vP L w eb x ft/\aFo L w b eb f v
def kC(L:LN)(w:World)(b:Nat):List Fr->List Value->List Nat->Prop
 |[],[],ft=>ft=[]
 |f::fs,v::vs,ft=>∃f1 f2,ft=f1++f2/\sS L w b f v f1/\kC L w b fs vs f2
 |_,_,_=>False
section
variable {S L L1:LN}{w w1:World}
theorem Fz.up(h:Tn S L L1 w w1)(hS:∀k∈S,k∈L){p:Nat}{v:Value}(k:Fz L w p v):Fz L1 w1 p v:=h.up hS _ _ k
theorem Fz.get{p:Nat}{v:Value}(k:Fz L w p v):w.cell? ⟨p,0,none⟩=some v:=(zV k).1
theorem Fz.new{p:Nat}{v:Value}(h:w.cell? ⟨p,0,none⟩=some v)(hp:p∉L):Fz L w p v:=(rR (p:=⟨p,0,none⟩) hp).trans h
theorem oR.up(h:Tn S L L1 w w1)(hS:∀k∈S,k∈L){b eb f:Nat}{v:Value}:oR L w b eb f v->oR L1 w1 b eb f v
 |⟨p0,p1,p2,e,h0,h1,h2⟩=>⟨p0,p1,p2,e,h0.up h hS,h1.up h hS,h2.up h hS⟩
theorem aFb.up(h:Tn S L L1 w w1)(hS:∀k∈S,k∈L){b eb f:Nat}{v:Value}:aFb L w b eb f v->aFb L1 w1 b eb f v
 |⟨p0,p1,p2,vm,e,h0,h1,h2,h3⟩=>⟨p0,p1,p2,vm,e,h0.up h hS,h1.up h hS,h2.up h hS,h3.up h hS⟩
theorem xZ.up(h:Tn S L L1 w w1)(hS:∀k∈S,k∈L){ev:Bool}{b eb f:Nat}{v:Value}(k:xZ L w ev b eb f v):xZ L1 w1 ev b eb f v:=by
 unfold xZ at k⊢;split
 . rename_i he;rw[if_pos he]at k;exact k.up h hS
 . rename_i he;rw[if_neg he]at k;exact k.up h hS
theorem aX.stay{eb:Nat}{x:Ex}{Aa:OA}{ca:Nat}{B:OA}{cb:Nat}(k:aX w eb x Aa ca B cb)(h:Tn S L L1 w w1)(hn:eb∉S):aX w1 eb x Aa ca B cb:=(h.block eb k.lt hn).trans k
theorem jL.up(h:Tn S L L1 w w1)(hS:∀k∈S,k∈L){eb:Nat}{x:Ex}(hn:eb∉S):jL L w eb x->jL L1 w1 eb x
 |⟨h0,hx,Aa,ca,h1,h2⟩=>⟨h.stay eb h0 hn,hx,Aa,ca,h1.stay h hn,h2.up h.ups (h.up hS)⟩
theorem vP.up(h:Tn S L L1 w w1){eb:Nat}{x:Ex}{ft:LN}(hn:∀k∈ft,k∉S):vP L w eb x ft->vP L1 w1 eb x ft
 |⟨hx,Aa,ca,h1,h2,h3,h4⟩=>⟨hx,Aa,ca,h1.stay h (hn eb (by rw[h3];exact Zc)),jM h2 fun k hk=>h.block k (h2.lt k hk).2 (hn k (by rw[h3];simp[hk])),h3,fun k hk=>h.stay k (h4 k hk) (hn k hk)⟩
theorem aFo.up(h:Tn S L L1 w w1)(hS:∀k∈S,k∈L){b eb f:Nat}{v:Value}:aFo L w b eb f v->aFo L1 w1 b eb f v
 |⟨p0,p1,p2,p3,p4,vm,e,h0,h1,h2,h3,h4,h5⟩=>⟨p0,p1,p2,p3,p4,vm,e,h0.up h hS,h1.up h hS,h2.up h hS,h3.up h hS,h4.up h hS,h5.up h hS⟩
theorem sS.up(h:Tn S L L1 w w1)(hS:∀k∈S,k∈L){b:Nat}{f:Fr}{v:Value}{ft:LN}(hn:∀k∈ft,k∉S)(k:sS L w b f v ft):sS L1 w1 b f v ft:=by
 cases f with
 |m l=>exact k
 |sign s=>
  obtain⟨e,ha,p0,p1,ev,h0,h1⟩:=k;exact⟨e,ha,p0,p1,ev,h0.up h hS,h1.up h hS⟩
 |made x f=>
  obtain⟨eb,rfl,h0,h1⟩:=k;exact⟨eb,rfl,h0.up h hS (hn eb aC),h1.up h hS⟩
 |right s k1 o=>
  obtain⟨e,ha,p0,p1,p2,p3,ev,h0,h1,h2,h3⟩:=k;exact⟨e,ha,p0,p1,p2,p3,ev,h0.up h hS,h1.up h hS,h2.up h hS,h3.up h hS⟩
 |left Aq Aa=>
  obtain⟨e,zs,hz,ho,p0,p1,p2,p3,g,c1,ev,h0,h1,h4,h2,h3⟩:=k;exact⟨e,zs,hz,ho,p0,p1,p2,p3,g,c1,ev,h0.up h hS,h1.up h hS,fun i hi=>h.up hS _ _ (h4 i hi),h2.up h hS,h3.up h hS⟩
 |once Aq Aa=>
  obtain⟨e,zs,hz,ho,p0,p1,p2,g,c1,ev,h0,h1,h4,h2⟩:=k;exact⟨e,zs,hz,ho,p0,p1,p2,g,c1,ev,h0.up h hS,h1.up h hS,fun i hi=>h.up hS _ _ (h4 i hi),h2.up h hS⟩
 |list Ae ev x f=>
  obtain⟨eb,rfl,h0,ha,p0,p1,p2,p3,vt,e,h1,h2,h3,h4,h5⟩:=k;exact⟨eb,rfl,h0.up h hS (hn eb aC),ha,p0,p1,p2,p3,vt,e,h1.up h hS,h2.up h hS,h3.up h hS,h4.up h hS,h5.up h hS⟩
 |more x f=>
  obtain⟨eb,h0,h1⟩:=k;exact⟨eb,h0.up h hn,h1.up h hS⟩
theorem kC.up(h:Tn S L L1 w w1)(hS:∀k∈S,k∈L){b:Nat}:∀{fs:List Fr}{vs:LV}{ft:LN},(∀k∈ft,k∉S)->kC L w b fs vs ft->kC L1 w1 b fs vs ft
 |[],[],ft,hn,k=>k
 |f::fs,v::vs,ft,hn,⟨f1,f2,e,h1,h2⟩=>⟨f1,f2,e,h1.up h hS fun k hk=>hn k (by rw[e];exact List.mem_append_left _ hk),h2.up h hS fun k hk=>hn k (by rw[e];exact List.mem_append_right _ hk)⟩
 |[],v::vs,ft,hn,k=>k.elim
 |f::fs,[],ft,hn,k=>k.elim
theorem sS.func{b:Nat}{f:Fr}{v:Value}{ft:LN}(k:sS L w b f v ft):∃fn a c,v=.func fn a c:=by
 cases f with
 |m l=>exact⟨_,_,_,k.2⟩
 |sign s=>obtain⟨e,ha,p0,p1,ev,h0,h1⟩:=k;exact⟨_,_,_,ev⟩
 |made x f=>obtain⟨eb,_,h0,p0,p1,p2,ev,_⟩:=k;exact⟨_,_,_,ev⟩
 |right s k1 o=>obtain⟨e,ha,p0,p1,p2,p3,ev,_⟩:=k;exact⟨_,_,_,ev⟩
 |left Aq Aa=>obtain⟨e,zs,hz,ho,p0,p1,p2,p3,g,c1,ev,_⟩:=k;exact⟨_,_,_,ev⟩
 |once Aq Aa=>obtain⟨e,zs,hz,ho,p0,p1,p2,g,c1,ev,_⟩:=k;exact⟨_,_,_,ev⟩
 |list Ae ev x f=>obtain⟨eb,_,h0,ha,p0,p1,p2,p3,vt,e,_⟩:=k;exact⟨_,_,_,e⟩
 |more x f=>obtain⟨eb,h0,p0,p1,p2,p3,p4,vm,e,_⟩:=k;exact⟨_,_,_,e⟩
end
def cU(b:Nat)(va vp:Value)(ft:LN):List Nat:=b::(va.ownBlock.toList++(vp.ownBlock.toList++ft))
theorem aBn{b:Nat}{va vp:Value}{ft:LN}:∀k∈dZ b va,k∈cU b va vp ft:=by
 intro k hk;simp only[dZ,cU,Yw,Zr]at hk⊢;rcases hk with rfl|hk;· exact .inl rfl
 . exact .inr (.inl hk)
theorem eZ{b:Nat}{va vp:Value}{ft:LN}:∀k∈[b],k∈cU b va vp ft:=by
 intro k hk;rw[Yp.1 hk];exact aC6
def bF(w:World)(b:Nat)(A:OA)(n c:Nat)(all:List Tk)(va:Value)(st:LV)(vp:Value)(L ft:LN)(o:jK)(e:Ending)(w':World):Prop:=match o with
 |.ok z r2=>e=.returned (.tuple #[])/\∃Ae Aa L' vt fts,aP w' b A n c all r2 Ae (vt++st) Aa z.2.1 z.2.2 L'/\kC L' w' b z.1 vt fts/\Tn (cU b va vp ft) L L' w w'/\fts.Nodup/\
  (∀k∈fts,k∈ft\/w.heap.size<=k)/\(∀k∈fts,k≠b/\Ae.ownBlock≠some k/\Aa.ownBlock≠some k)/\dQ w va Ae/\dQ w vp Aa
 |.bad q=>e=zB/\(∃L',Tn (cU b va vp ft) L L' w w')/\∃Ae Aa Aq,w'.heap[b]?=some (.cells (nE (.slice A n c) ((n-q.length:Nat):Int) Ae Aa Aq) 257)
section
variable {w w1 w2 w':World}{b:Nat}{A:OA}{n c:Nat}{all r r' r2:List Tk}{va va1 vp:Value}{st:LV}{ps:List Ex}{sz:Nat}{L L1 L2 S ft:LN}
theorem mJ(h:aP w b A n c all r va st vp ps sz L):∀k∈dZ b va,k∈L:=fun k hk=>by
 exact aPn
theorem cV(h:aP w b A n c all r va st vp ps sz L):∀k∈[b],k∈L:=fun k hk=>by
 rw[Yp.1 hk];exact h.lb
theorem zQ{new:List Fr}{vt:LV}{fts:LN}(h:aP w b A n c all r va st vp ps sz L)(hT:Tn (cU b va vp ft) L L1 w w1)(h1:aP w1 b A n c all r2 va1 st vp ps sz L1)(hg:dQ w va va1)
 (hF:kC L1 w1 b new vt fts)(hn:fts.Nodup)(hf:∀k∈fts,k∈ft\/w.heap.size<=k)(Gw:∀k∈fts,k≠b/\va1.ownBlock≠some k/\vp.ownBlock≠some k/\k<w1.heap.size)
 {e:Ending}(hx:e=.returned (.tuple #[])/\∃Aa L',aP w' b A n c all r2 Aa (vt++st) vp ps sz L'/\Tn (dZ b va1) L1 L' w1 w'/\dQ w1 va1 Aa):bF w b A n c all va st vp L ft (.ok (new,ps,sz) r2) e w':=by
 obtain⟨e1,Aa,L',hM,Ae,hg2⟩:=hx;refine⟨e1,Aa,vp,L',vt,fts,hM,hF.up Ae (mJ h1) fun k hk hs=>?_,hT.trans Ae h.lv fun k hk=>?_,hn,hf,fun k hk=>⟨(Gw k hk).1,fun e=>?_,(Gw k hk).2.2.1⟩,hg.trans hg2 hT.size,dQ.refl _ _⟩;· exact bCm
 . exact bDs
 . exact bC5
theorem aMs(h:aP w b A n c all r va st vp ps sz L)(hq:bM w1 b A n c all r2 va vp sz)(hb:Below w.heap.size (bl b w) (bl b w1)):bF w b A n c all va st vp L ft (.ok ([],ps,sz) r2) (.returned (.tuple #[])) w1:=by
 obtain⟨h1,h2⟩:=h.move hq hb;exact⟨rfl,va,vp,L,[],[],h1,rfl,h2.mono eZ,List.nodup_nil,fun k hk=>absurd hk Yl,fun k hk=>absurd hk Yl,dQ.refl _ _,dQ.refl _ _⟩
theorem zW(h:aP w b A n c all r va st vp ps sz L)(hq:bM w1 b A n c all r2 va vp sz)(hb:Below w.heap.size (bl b w) (bl b w1)):bF w b A n c all va st vp L ft (.bad r2) zB w1:=by
 obtain⟨h1,h2⟩:=h.move hq hb;exact⟨rfl,⟨L,h2.mono eZ⟩,va,vp,sz,hq.row⟩
theorem aZh(w:World)(x y:Value)(X Y:TypeId):Below w.heap.size w ((w.alloc (.cells #[x] X)).alloc (.cells #[y] Y))/\((w.alloc (.cells #[x] X)).alloc (.cells #[y] Y)).cell? ⟨w.heap.size,0,none⟩=some x/\
 ((w.alloc (.cells #[x] X)).alloc (.cells #[y] Y)).cell? ⟨w.heap.size+1,0,none⟩=some y:=by
 refine⟨((Yg _ _).alloc (Yh _) _).alloc aC _,?_,?_⟩
 . rw[Yj _ _ _ aC];exact Zs w _ _ 0
 . simp
theorem bO6(w:World)(x y z:Value)(X Y Z:TypeId):Below w.heap.size w (((w.alloc (.cells #[x] X)).alloc (.cells #[y] Y)).alloc (.cells #[z] Z))/\(((w.alloc (.cells #[x] X)).alloc (.cells #[y] Y)).alloc (.cells #[z] Z)).cell? ⟨w.heap.size,0,none⟩=some x/\
 (((w.alloc (.cells #[x] X)).alloc (.cells #[y] Y)).alloc (.cells #[z] Z)).cell? ⟨w.heap.size+1,0,none⟩=some y/\(((w.alloc (.cells #[x] X)).alloc (.cells #[y] Y)).alloc (.cells #[z] Z)).cell? ⟨w.heap.size+1+1,0,none⟩=some z:=by
 obtain⟨hb,h0,h1⟩:=aZh w x y X Y;refine⟨hb.alloc cP _,?_,?_,?_⟩
 . rw[Yj _ _ _ cP];exact h0
 . rw[Yj _ _ _ aC];exact h1
 . have:=Zs ((w.alloc (.cells #[x] X)).alloc (.cells #[y] Y)) #[z] Z 0
   simpa using this
theorem lC(j eb:Nat)(h:aP w b A n c all r va st vp ps sz L)(hj:j<=ps.length)(hp:ps.length<=1000000):
 Calls Tryz.prog 263 #[rp b,rp eb,.int .i64 (j:Int)] w fun e w'=>∃p0 p1 p2,e=.returned (aN 273 #[rp p0,rp p1,rp p2])/\Below w.heap.size w w'/\
  (w.heap.size<=p0/\w.heap.size<=p1/\w.heap.size<=p2)/\w'.cell? ⟨p0,0,none⟩=some (rp b)/\w'.cell? ⟨p1,0,none⟩=some (rp eb)/\w'.cell? ⟨p2,0,none⟩=some (.int .i64 ((ps.length-j:Nat):Int)):=by
 have Aq:=eX;obtain⟨m,hm⟩:∃m,m=ps.length:=⟨_,rfl⟩;obtain⟨A3,c3,Aa⟩:∃A3 c3,vp=.slice A3 m c3:=by
  obtain⟨cs,ho,_⟩:=h.op;rcases ho.2 with⟨h1,h2⟩|⟨g,cap,cur,h1,_⟩;· exact⟨none,0,by rw[h1,hm,h2]⟩
  . exact⟨_,_,by rw[h1,hm]⟩
 have Ae:w.cell? ⟨b,3,none⟩=some vp:=h.cell 3;rw[Aa]at Ae;have Cl:=h.lt;have hw:IntKind.i64.wrap ((m:Int)-(j:Int))=((ps.length-j:Nat):Int):=aGh;have q3:=fun(o1 o2:Obj)=>(Yj (w.alloc o1) o2 ⟨b,3,none⟩ cP).trans ((Yj w o1 ⟨b,3,none⟩ Cl).trans Ae);generalize ((ps.length-j:Nat):Int)=z at *;clear h Aa hm hj;go_in
 go_wp2_with fail;go_ret;obtain⟨hb,k0,k1,k2⟩:=bO6 w (rp b) (rp eb) (.int .i64 z) 254 197 3;exact⟨w.heap.size,w.heap.size+1,w.heap.size+1+1,rfl,hb,⟨Yh _,by omega,by omega⟩,k0,k1,k2⟩
theorem uO(s:BA)(w:World):
 Calls Tryz.prog 312 #[rp b,.string s] w fun e w'=>∃p0 p1,e=.returned (aN 317 #[rp p0,rp p1])/\Below w.heap.size w w'/\
  (w.heap.size<=p0/\w.heap.size<=p1)/\w'.cell? ⟨p0,0,none⟩=some (rp b)/\w'.cell? ⟨p1,0,none⟩=some (.string s):=by
 have Aa:=eX;go_in
 go_wp2_with fail;go_ret;obtain⟨hb,k0,k1⟩:=aZh w (rp b) (.string s) 254 9;exact⟨w.heap.size,w.heap.size+1,rfl,hb,⟨Yh _,by omega⟩,k0,k1⟩
theorem bTo(op:Int)(w:World):
 Calls Tryz.prog 283 #[.int .i64 op] w fun e w'=>e=.returned (rp w.heap.size)/\w'=w.alloc (.cells (aJ (jI 6 op) none 0 none 0) 79):=by
 go_in
 go_wp2_with fail;go_ret;exact⟨rfl,rfl⟩
end
end
section
open Go.RowKit Go.Sort
def aAo:World->List (Array Value × TypeId)->World
 |w,[]=>w
 |w,x::l=>aAo (w.alloc (.cells x.1 x.2)) l
theorem aZi:∀(l:List (Array Value × TypeId))(w:World),Below w.heap.size w (aAo w l)/\(aAo w l).heap.size=w.heap.size+l.length/\∀i x,l[i]?=some x->(aAo w l).heap[w.heap.size+i]?=some (.cells x.1 x.2)
 |[],w=>⟨Yg _ _,rfl,fun i x h=>by simp at h⟩
 |y::l,w=>by
  obtain⟨h1,h2,h3⟩:=aZi l (w.alloc (.cells y.1 y.2));have hs:(w.alloc (.cells y.1 y.2)).heap.size=w.heap.size+1:=aC;have hb:Below w.heap.size w (w.alloc (.cells y.1 y.2)):=(Yg _ _).alloc (Yh _) _;refine⟨hb.tr h1,by rw[show(aAo w (y::l)).heap.size=_ from h2,hs,Yq];omega,fun i x hx=>?_⟩;cases i with
  |zero=>
   have:=h1.block w.heap.size aA
   rw[Nat.add_zero];refine(show(aAo w (y::l)).heap[w.heap.size]?=_ from this).trans ?_;rw[Xa];simp only[Zd,Option.some.injEq]at hx;rw[hx]
  |succ i=>
   have:=h3 i x (by simpa using hx)
   rw[hs]at this;rw[show w.heap.size+(i+1)=w.heap.size+1+i by omega];exact this
structure eG (w:World)(l:List (Array Value × TypeId))(w':World):Prop where
 below:Below w.heap.size w w'
 size:w'.heap.size=w.heap.size+l.length
 at_:∀i x,l[i]?=some x->w'.heap[w.heap.size+i]?=some (.cells x.1 x.2)
theorem news{w w':World}{l:List (Array Value × TypeId)}(h:aAo w l=w'):eG w l w':=by
 obtain⟨h1,h2,h3⟩:=aZi l w;rw[h]at h1 h2 h3;exact⟨h1,h2,h3⟩
theorem eG.cell{w w':World}{l:List (Array Value × TypeId)}(h:eG w l w')(i j:Nat)(x:Array Value × TypeId)(v:Value)(hx:l[i]?=some x)(hv:x.1[j]?=some v):w'.cell? ⟨w.heap.size+i,j,none⟩=some v:=by
 unfold World.cell?;rw[h.at_ i x hx];simpa using hv
theorem lT{w:World}{L:LN}(hL:∀k∈L,k<w.heap.size)(i:Nat):w.heap.size+i∉L:=fun h=>by have:=hL _ h;omega
section
variable {w w1 w2 w':World}{b:Nat}{A:OA}{n c:Nat}{all r r' r2:List Tk}{va va1 vp:Value}{st:LV}{ps:List Ex}{sz:Nat}{L L1 L2 S ft:LN}
def Fns(l:LV):Prop:=∀v∈l,∃fn a c,v=.func fn a c
theorem iB:Fns []:=fun v h=>absurd h Yl
theorem cJ{fn:Fn}{a c:AV}{l:LV}(h:Fns l):Fns (.func fn a c::l):=fun v hv=>by
 rcases Yw.1 hv with rfl|hv;· exact⟨_,_,_,rfl⟩
 . exact h v hv
theorem aAg(l:LV)(lst:List (Array Value × TypeId))(i:Nat)(T:TypeId)(hl:l.length<=100)(h:aP w b A n c all r va st vp ps sz L)(Av:st.length<=1000000)(HN:eG w lst w1)(hi:lst[i]?=some (l.toArray,T))(h1:Fns l)
 (h2:aP w1 b A n c all r va st vp ps sz L2)(Ae:w.heap.size+i∉L2):
 Calls Tryz.prog 246 #[rp b,.slice (some ⟨w.heap.size+i,0,none⟩) l.length l.length] w1 fun e w'=>e=.returned (.tuple #[])/\
  ∃Aa L',aP w' b A n c all r Aa (l++st) vp ps sz L'/\Tn (dZ b va) L2 L' w1 w'/\dQ w1 va Aa:=
 cAo l _ _ hl h2 aA (by rw[HN.size];have:=(List.getElem?_eq_some_iff.1 hi).1;omega) Ae (fun j hj=>HN.cell i j _ _ hi (by simp[Yk hj])) h1
theorem kJ{Ae:LN}{o:jK}{e:Ending}(h:aP w b A n c all r va st vp ps sz L)(hT:Tn (cU b va vp ft) L L1 w w1)(Jk:∀k∈Ae,k∈ft\/w.heap.size<=k)(k:bF w1 b A n c all va st vp L1 Ae o e w'):bF w b A n c all va st vp L ft o e w':=by
 have hS:∀k∈cU b va vp Ae,k∈cU b va vp ft\/w.heap.size<=k:=fun k hk=>by
  simp only[cU,Yw,Zr]at hk⊢;rcases hk with hk|hk|hk|hk;· exact .inl (.inl hk)
  . exact .inl (.inr (.inl hk))
  . exact .inl (.inr (.inr (.inl hk)))
  . rcases Jk k hk with hk|hk;· exact .inl (.inr (.inr (.inr hk)))
    . exact .inr hk
 have Aq:∀v v':Value,dQ w1 v v'->dQ w v v':=fun v v' hg=>by
  rcases hg with hg|hg;· exact .inl hg
  . exact .inr fun k hk=>Yr hT.size (hg k hk)
 cases o with
 |ok z r3=>
  obtain⟨e1,Ct,Bs,L',vt,fts,hM,hF,Aa,hn,hf,Gw,g1,g2⟩:=k;refine⟨e1,Ct,Bs,L',vt,fts,hM,hF,hT.trans Aa h.lv hS,hn,fun k hk=>?_,Gw,Aq _ _ g1,Aq _ _ g2⟩;rcases hf k hk with hk|hk;· exact Jk k hk
  . exact .inr (Yr hT.size hk)
 |bad q=>
  obtain⟨e1,⟨L',Aa⟩,Ad⟩:=k;exact⟨e1,⟨L',hT.trans Aa h.lv hS⟩,Ad⟩
theorem aBu{new:List Fr}{vt:LV}(h:aP w b A n c all r va st vp ps sz L)(hb:Below w.heap.size w w1)(hF:kC L w1 b new vt []){e:Ending}
 (hx:e=.returned (.tuple #[])/\∃Aa L',aP w' b A n c all r Aa (vt++st) vp ps sz L'/\Tn (dZ b va) L L' w1 w'/\dQ w1 va Aa):bF w b A n c all va st vp L ft (.ok (new,ps,sz) r) e w':=
 zQ h (Tn.of_below hb) (h.below hb) (dQ.refl _ _) hF List.nodup_nil (fun k hk=>absurd hk Yl) (fun k hk=>absurd hk Yl) hx
theorem aZj(Aa o:Lv)(s:LU)(k:Int)(hs:fQ s)(h:aP w b A n c all r va st vp ps sz L)(Av:st.length<=1000000):
 Calls Tryz.prog 247 #[rp b,bA b Aa,.string (aZ s),.int .i64 k,bA b o] w (bF w b A n c all va st vp L [] (.ok ([.m Aa,.right s k o],ps,sz) r)):=by
 have Bs:=eX;have HM:=Hd h;have HS:=Hd hs;clear h hs;generalize Ae:aZ s=ss at *;have Aq:=Hd Ae;clear Ae;go_in
 go_wp2_with fail;generalize hW:((((w.alloc _).alloc _).alloc _).alloc _).alloc _=W;have HN:=Hd (news (w:=w) (l:=[(#[rp b],254),(#[.string ss],9),(#[.int .i64 k],3),(#[bA b o],1),(#[bA b Aa,aN 262 #[rp w.heap.size,rp (w.heap.size+1),rp (w.heap.size+1+1+1),rp (w.heap.size+1+1)]],1)]) hW);clear hW;refine(aAg [bA b Aa,aN 262 #[rp w.heap.size,rp (w.heap.size+1),rp (w.heap.size+1+1+1),rp (w.heap.size+1+1)]] _ 4 _ aC HM.o Av HN.o rfl (cJ (cJ iB)) (HM.o.below HN.o.below) (lT HM.o.lv 4)).mono ?_;rintro e w' ⟨rfl,hx⟩;have HX:=Hd hx;clear hx;go_wp2_with fail;go_end0
 refine aBu HM.o HN.o.below ?_ ⟨rfl,HX.o⟩;have Dp:=fun i=>lT HM.o.lv i;refine⟨[],[],rfl,⟨rfl,rfl⟩,[],[],rfl,⟨rfl,HS.o,_,_,_,_,rfl,Fz.new (HN.o.cell 0 0 _ _ rfl rfl) (Dp 0),?_,Fz.new (HN.o.cell 3 0 _ _ rfl rfl) (Dp 3),Fz.new (HN.o.cell 2 0 _ _ rfl rfl) (Dp 2)⟩,rfl⟩;rw[Aq.o];exact Fz.new (HN.o.cell 1 0 _ _ rfl rfl) (Dp 1)
theorem aJa(Aa:Lv)(zs:List (Int × ByteArray))(g c1:Nat)(hz:qS zs)(h:aP w b A n c all r va st vp ps sz L)(Av:st.length<=1000000)(ho:∀i,i<zs.length->(fR L w).cell? ⟨g,i,none⟩=some (.int .i64 (zs[i]?.getD default).1)):
 Calls Tryz.prog 274 #[rp b,bA b Aa,.slice (some ⟨g,0,none⟩) zs.length c1] w (bF w b A n c all va st vp L [] (.ok ([.m Aa,.left (gY zs) Aa],ps,sz) r)):=by
 have Ae:=eX;have HM:=Hd h;have HO:=Hd ho;have HZ:=Hd hz;clear h ho hz;generalize hm:zs.length=m at *;have Ld:=Hd hm;clear hm;go_in
 go_wp2_with fail;generalize hW:((((w.alloc _).alloc _).alloc _).alloc _).alloc _=W;have HN:=Hd (news (w:=w) (l:=[(#[rp b],254),(#[bA b Aa],1),(#[.slice (some ⟨g,0,none⟩) m c1],274),(#[aN 281 #[rp w.heap.size,rp (w.heap.size+1+1),rp (w.heap.size+1),rp (w.heap.size+1+1+1)]],1),(#[bA b Aa,aN 281 #[rp w.heap.size,rp (w.heap.size+1+1),rp (w.heap.size+1),rp (w.heap.size+1+1+1)]],1)]) hW);clear hW;refine(aAg [bA b Aa,aN 281 #[rp w.heap.size,rp (w.heap.size+1+1),rp (w.heap.size+1),rp (w.heap.size+1+1+1)]] _ 4 _ aC HM.o Av HN.o rfl (cJ (cJ iB)) (HM.o.below HN.o.below) (lT HM.o.lv 4)).mono ?_;rintro e w' ⟨rfl,hx⟩;have HX:=Hd hx;clear hx;go_wp2_with fail;go_end0
 refine aBu HM.o HN.o.below ?_ ⟨rfl,HX.o⟩;have Dp:=fun i=>lT HM.o.lv i;refine⟨[],[],rfl,⟨rfl,rfl⟩,[],[],rfl,⟨rfl,zs,rfl,HZ.o,_,_,_,_,g,c1,rfl,Fz.new (HN.o.cell 0 0 _ _ rfl rfl) (Dp 0),?_,fun i hi=>?_,Fz.new (HN.o.cell 1 0 _ _ rfl rfl) (Dp 1),Fz.new (HN.o.cell 3 0 _ _ rfl rfl) (Dp 3)⟩,rfl⟩;· exact bEu
 . exact bCp
theorem cAp(Aa:Lv)(zs:List (Int × ByteArray))(g c1:Nat)(hz:qS zs)(h:aP w b A n c all r va st vp ps sz L)(Av:st.length<=1000000)(ho:∀i,i<zs.length->(fR L w).cell? ⟨g,i,none⟩=some (.int .i64 (zs[i]?.getD default).1)):
 Calls Tryz.prog 292 #[rp b,bA b Aa,.slice (some ⟨g,0,none⟩) zs.length c1] w (bF w b A n c all va st vp L [] (.ok ([.m Aa,.once (gY zs) Aa],ps,sz) r)):=by
 have Ae:=eX;have HM:=Hd h;have HO:=Hd ho;have HZ:=Hd hz;clear h ho hz;generalize hm:zs.length=m at *;have Ld:=Hd hm;clear hm;go_in
 go_wp2_with fail;generalize hW:(((w.alloc _).alloc _).alloc _).alloc _=W;have HN:=Hd (news (w:=w) (l:=[(#[rp b],254),(#[bA b Aa],1),(#[.slice (some ⟨g,0,none⟩) m c1],274),(#[bA b Aa,aN 297 #[rp w.heap.size,rp (w.heap.size+1+1),rp (w.heap.size+1)]],1)]) hW);clear hW;refine(aAg [bA b Aa,aN 297 #[rp w.heap.size,rp (w.heap.size+1+1),rp (w.heap.size+1)]] _ 3 _ aC HM.o Av HN.o rfl (cJ (cJ iB)) (HM.o.below HN.o.below) (lT HM.o.lv 3)).mono ?_;rintro e w' ⟨rfl,hx⟩;have HX:=Hd hx;clear hx;go_wp2_with fail;go_end0
 refine aBu HM.o HN.o.below ?_ ⟨rfl,HX.o⟩;have Dp:=fun i=>lT HM.o.lv i;refine⟨[],[],rfl,⟨rfl,rfl⟩,[],[],rfl,⟨rfl,zs,rfl,HZ.o,_,_,_,g,c1,rfl,Fz.new (HN.o.cell 0 0 _ _ rfl rfl) (Dp 0),?_,fun i hi=>?_,Fz.new (HN.o.cell 1 0 _ _ rfl rfl) (Dp 1)⟩,rfl⟩;· exact bEu
 . exact bCp
theorem oO(h:aP w b A n c all r va st vp ps sz L){eb:Nat}{x:Ex}(k:jL L w eb x):eb≠b/\va.ownBlock≠some eb/\eb<w.heap.size:=by
 obtain⟨h0,_,Aa,ca,h1,_⟩:=k;refine⟨?_,oQ h.oa h1 aF,h1.lt⟩;rintro rfl;have h2:=h.row;rw[show w.heap[eb]?=_ from h1]at h2;exact bEc
theorem aBv(k:Nat):[k].Nodup:=aC
theorem bA8(Aa:LU)(ev:Bool)(x:Ex)(f eb:Nat)(tf:Fn)(ta tc:AV)(hs:fQ Aa)(h:aP w b A n c all r va st vp ps sz L)(Av:st.length<=1000000)(he:jL L w eb x)(hv:vp.ownBlock≠some eb)(ht:xZ L w ev b eb f (.func tf ta tc)):
 Calls Tryz.prog 311 #[rp b,.string (aZ Aa),.func tf ta tc] w (bF w b A n c all va st vp L [eb] (.ok ([.m .arrow,.list Aa ev x f],ps,sz) r)):=by
 have Hb:=eX;have HM:=Hd h;have HE:=Hd he;have HT:=Hd ht;have HS:=Hd hs;have HV:=Hd hv;clear h he ht hs hv;generalize Bs:aZ Aa=ss at *;have Fs:=Hd Bs;clear Bs;go_in
 go_wp2_with fail;generalize hW:((((w.alloc _).alloc _).alloc _).alloc _).alloc _=W;have HN:=Hd (news (w:=w) (l:=[(#[rp b],254),(#[.string ss],9),(#[.func tf ta tc],1),(#[aN 316 #[rp w.heap.size,rp (w.heap.size+1+1+1),rp (w.heap.size+1),rp (w.heap.size+1+1)]],1),(#[bA b .arrow,aN 316 #[rp w.heap.size,rp (w.heap.size+1+1+1),rp (w.heap.size+1),rp (w.heap.size+1+1)]],1)]) hW);clear hW;refine(aAg [bA b .arrow,aN 316 #[rp w.heap.size,rp (w.heap.size+1+1+1),rp (w.heap.size+1),rp (w.heap.size+1+1)]] _ 4 _ aC HM.o Av HN.o rfl (cJ (cJ iB)) (HM.o.below HN.o.below) (lT HM.o.lv 4)).mono ?_;rintro e w' ⟨rfl,hx⟩;have HX:=Hd hx;clear hx;go_wp2_with fail;go_end0
 obtain⟨Dg,Ha,Ct⟩:=oO HM.o HE.o;have Dp:=fun i=>lT HM.o.lv i;have Ae:Tn [] L L w W:=Tn.of_below HN.o.below;have Aq:∀k∈([]:LN),k∈L:=fun k hk=>absurd hk Yl;refine zQ (fts:=[eb]) HM.o (Tn.of_below HN.o.below) (HM.o.below HN.o.below) (dQ.refl _ _) ?_ (aBv _) (fun k hk=>.inl hk) (fun k hk=>?_) ⟨rfl,HX.o⟩
 . refine⟨[],[eb],rfl,⟨rfl,rfl⟩,[eb],[],rfl,⟨eb,rfl,HE.o.up Ae Aq Yl,HS.o,_,_,_,_,_,rfl,Fz.new (HN.o.cell 0 0 _ _ rfl rfl) (Dp 0),Fz.new (HN.o.cell 3 0 _ _ rfl rfl) (Dp 3),?_,Fz.new (HN.o.cell 2 0 _ _ rfl rfl) (Dp 2),HT.o.up Ae Aq⟩,rfl⟩;rw[Fs.o];exact Fz.new (HN.o.cell 1 0 _ _ rfl rfl) (Dp 1)
 . rw[Yp.1 hk];exact⟨Dg,Ha,HV.o,Yt Ct HN.o.below.size⟩
theorem bTp(h:aP w b A n c all r va st vp ps sz L)(Av:st.length<=1000000):Calls Tryz.prog 227 #[rp b] w (bF w b A n c all va st vp L [] (gL .arrow ps sz r)):=by
 have Aa:=eX;have HR:=Hd (aZj .fby .arrow mB 9 (.inr aF) h Av);exact bCb
theorem cAq(h:aP w b A n c all r va st vp ps sz L)(Av:st.length<=1000000):Calls Tryz.prog 248 #[rp b] w (bF w b A n c all va st vp L [] (gL .fby ps sz r)):=by
 have Aa:=eX;have HR:=Hd (aZj .or .fby oF 8 (.inl aF) h Av);exact bCb
def zUn:List (Int × ByteArray):=[(1,⟨#[45]⟩),(2,⟨#[110,111,116]⟩)]
theorem cCq:qS zUn:=by
 refine⟨by decide,fun z hz=>?_⟩;simp only[zUn,Yw,Yl,or_false]at hz;rcases hz with rfl|rfl;· exact tI
 . exact aF2
def zOr:List (Int × ByteArray):=[(9,⟨#[111,114]⟩),(10,⟨#[120,111,114]⟩)]
theorem cCr:qS zOr:=by
 refine⟨by decide,fun z hz=>?_⟩;simp only[zOr,Yw,Yl,or_false]at hz;rcases hz with rfl|rfl;· exact aF2
 . exact aF2
theorem cCs(h:aP w b A n c all r va st vp ps sz L)(Av:st.length<=1000000):Calls Tryz.prog 264 #[rp b] w (bF w b A n c all va st vp L [] (gL .or ps sz r)):=by
 have Aa:=eX;have HM:=Hd h;clear h;go_in
 go_wp2_with fail;generalize hW:w.alloc _=W;have HN:=Hd (news (w:=w) (l:=[(#[.int .i64 9,.int .i64 10],3)]) hW);clear hW;refine(aJa .and zOr w.heap.size 2 cCr (HM.o.below HN.o.below) Av (fun i hi=>?_)).mono ?_;· exact bIf
 exact aGm
def aRn:List (Int × ByteArray):=[(8,⟨#[97,110,100]⟩)]
theorem cAr:qS aRn:=by
 refine⟨by decide,fun z hz=>?_⟩;simp only[aRn,Yw,Yl,or_false]at hz;subst hz;· exact aF2
theorem cAs(h:aP w b A n c all r va st vp ps sz L)(Av:st.length<=1000000):Calls Tryz.prog 275 #[rp b] w (bF w b A n c all va st vp L [] (gL .and ps sz r)):=by
 have Aa:=eX;have HM:=Hd h;clear h;go_in
 go_wp2_with fail;generalize hW:w.alloc _=W;have HN:=Hd (news (w:=w) (l:=[(#[.int .i64 8],3)]) hW);clear hW;refine(aJa .cmp aRn w.heap.size 1 cAr (HM.o.below HN.o.below) Av (fun i hi=>?_)).mono ?_
 . refine(rR (lT HM.o.lv 0)).trans ?_
   match i,hi with
   |0,_=>exact HN.o.cell 0 0 _ _ rfl rfl
 exact aGm
def aRo:List (Int × ByteArray):=[(3,⟨#[43]⟩),(4,⟨#[45]⟩)]
theorem cAt:qS aRo:=by
 refine⟨by decide,fun z hz=>?_⟩;simp only[aRo,Yw,Yl,or_false]at hz;rcases hz with rfl|rfl;· exact tI
 . exact tI
theorem cAu(h:aP w b A n c all r va st vp ps sz L)(Av:st.length<=1000000):Calls Tryz.prog 293 #[rp b] w (bF w b A n c all va st vp L [] (gL .sum ps sz r)):=by
 have Aa:=eX;have HM:=Hd h;clear h;go_in
 go_wp2_with fail;generalize hW:w.alloc _=W;have HN:=Hd (news (w:=w) (l:=[(#[.int .i64 3,.int .i64 4],3)]) hW);clear hW;refine(aJa .prod aRo w.heap.size 2 cAt (HM.o.below HN.o.below) Av (fun i hi=>?_)).mono ?_;· exact bIf
 exact aGm
def aQm:List (Int × ByteArray):=[(5,⟨#[42]⟩),(6,⟨#[47]⟩),(7,⟨#[109,111,100]⟩)]
theorem bW6:qS aQm:=by
 refine⟨by decide,fun z hz=>?_⟩;simp only[aQm,Yw,Yl,or_false]at hz;rcases hz with rfl|rfl|rfl;· exact tI
 . exact tI
 . exact aF2
theorem bW7(h:aP w b A n c all r va st vp ps sz L)(Av:st.length<=1000000):Calls Tryz.prog 298 #[rp b] w (bF w b A n c all va st vp L [] (gL .prod ps sz r)):=by
 have Aa:=eX;have HM:=Hd h;clear h;go_in
 go_wp2_with fail;generalize hW:w.alloc _=W;have HN:=Hd (news (w:=w) (l:=[(#[.int .i64 5,.int .i64 6,.int .i64 7],3)]) hW);clear hW;refine(aJa .un aQm w.heap.size 3 bW6 (HM.o.below HN.o.below) Av (fun i hi=>?_)).mono ?_
 . refine(rR (lT HM.o.lv 0)).trans ?_
   match i,hi with
   |0,_=>exact HN.o.cell 0 0 _ _ rfl rfl
   |1,_=>exact HN.o.cell 0 1 _ _ rfl rfl
   |2,_=>exact HN.o.cell 0 2 _ _ rfl rfl
 exact aGm
def aRp:List (Int × ByteArray):=[(11,⟨#[61]⟩),(12,⟨#[60,62]⟩),(13,⟨#[60]⟩),(14,⟨#[60,61]⟩),(15,⟨#[62]⟩),(16,⟨#[62,61]⟩)]
theorem cAv:qS aRp:=by
 refine⟨by decide,fun z hz=>?_⟩;simp only[aRp,Yw,Yl,or_false]at hz;rcases hz with rfl|rfl|rfl|rfl|rfl|rfl;· exact tI
 . exact tI
 . exact tI
 . exact tI
 . exact tI
 . exact tI
theorem cAw(h:aP w b A n c all r va st vp ps sz L)(Av:st.length<=1000000):Calls Tryz.prog 284 #[rp b] w (bF w b A n c all va st vp L [] (gL .cmp ps sz r)):=by
 have Aa:=eX;have HM:=Hd h;clear h;go_in
 go_wp2_with fail;generalize hW:w.alloc _=W;have HN:=Hd (news (w:=w) (l:=[(#[.int .i64 11,.int .i64 12,.int .i64 13,.int .i64 14,.int .i64 15,.int .i64 16],3)]) hW);clear hW;refine(cAp .sum aRp w.heap.size 6 cAv (HM.o.below HN.o.below) Av (fun i hi=>?_)).mono ?_
 . refine(rR (lT HM.o.lv 0)).trans ?_
   match i,hi with
   |0,_=>exact HN.o.cell 0 0 _ _ rfl rfl
   |1,_=>exact HN.o.cell 0 1 _ _ rfl rfl
   |2,_=>exact HN.o.cell 0 2 _ _ rfl rfl
   |3,_=>exact HN.o.cell 0 3 _ _ rfl rfl
   |4,_=>exact HN.o.cell 0 4 _ _ rfl rfl
   |5,_=>exact HN.o.cell 0 5 _ _ rfl rfl
 exact aGm
end
end
section
open Go.RowKit Go.Sort
section
variable {w w1 w2 w':World}{b:Nat}{A:OA}{n c:Nat}{all r r' r2:List Tk}{va va1 vp:Value}{st:LV}{ps:List Ex}{sz:Nat}{L L1 L2 S ft:LN}
theorem bTq(s:LU)(p0 p1:Nat)(hs:fQ s)(h:aP w b A n c all r va st vp ps sz L)(h0:Fz L w p0 (rp b))(h1:Fz L w p1 (.string (aZ s))):
 Calls Tryz.prog 317 #[rp p0,rp p1] w (bF w b A n c all va st vp L [] (dG (.sign s) ps sz r)):=by
 have HM:=Hd h;have HT:=Hd (show Calls Tryz.prog 261 #[rp b,.string (aZ s)] w (cW w b A n c all va vp sz (aR s r) fun _ e=>e=.returned (.tuple #[]))from pJ (aZ s) hs h.q);have c0:=h0.get;have c1:=h1.get;clear h h0 h1;show Calls _ _ _ _ (bF w b A n c all va st vp L [] ((aR s r).bind fun _ r=>.ok ([],ps,sz) r));generalize aZ s=ss at *;cases hn:aR s r with
 |ok u r2=>
  have HK:=Hd (cW.ok_ HT.o hn);clear HT hn;go_in
  go_wp2_with fail;refine HK.o.mono ?_;exact bCl
 |bad r2=>
  have HK:=Hd (cW.bad_ HT.o hn);clear HT hn;go_in
  go_wp2_with fail;refine HK.o.mono ?_;rintro e w1 ⟨rfl,hq,hb⟩;have HQ:=Hd hq;have HB:=Hd hb;clear hq hb;go_wp2_with fail;exact⟨rfl,zW HM.o HQ.o HB.o⟩
theorem bW8(h:aP w b A n c all r va st vp ps sz L)(Av:st.length<=1000000):Calls Tryz.prog 302 #[rp b] w (bF w b A n c all va st vp L [] (gL .post ps sz r)):=by
 have Aa:=eX;have HM:=Hd h;clear h;go_in
 go_wp2_with fail;generalize hW:w.alloc _=W;have HN:=Hd (news (w:=w) (l:=[(#[bA b .atom,bA b .behind],1)]) hW);clear hW;refine(aAg [bA b .atom,bA b .behind] _ 0 _ aC HM.o Av HN.o rfl (cJ (cJ iB)) (HM.o.below HN.o.below) (lT HM.o.lv 0)).mono ?_;rintro e w' ⟨rfl,hx⟩;have HX:=Hd hx;clear hx;go_wp2_with fail;go_end0
 exact aBu (new:=[.m .atom,.m .behind]) (vt:=[bA b .atom,bA b .behind]) HM.o HN.o.below ⟨[],[],rfl,⟨rfl,rfl⟩,[],[],rfl,⟨rfl,rfl⟩,rfl⟩ ⟨rfl,HX.o⟩
theorem qC{eb p0 p1 p2 f:Nat}{w3:World}{x:Ex}(h:aP w b A n c all r va st vp ps sz L)(hx:x.subs=[])(Bs:x.arms=[])(Ab:Below w.heap.size w w1)(Aq:w.heap.size<=eb)(Ad:w1.heap[eb]?=some (.cells (aJ x none 0 none 0) 79))
 (Ag:Below w1.heap.size w1 w2)(hp:w1.heap.size<=p0/\w1.heap.size<=p1/\w1.heap.size<=p2)(h0:w2.cell? ⟨p0,0,none⟩=some (rp b))(h1:w2.cell? ⟨p1,0,none⟩=some (rp eb))(h2:w2.cell? ⟨p2,0,none⟩=some (.int .i64 (f:Int)))(Ak:Below w2.heap.size w2 w3):
 aP w3 b A n c all r va st vp ps sz (eb::L)/\Tn [] L (eb::L) w w3/\jL (eb::L) w3 eb x/\oR (eb::L) w3 b eb f (aN 273 #[rp p0,rp p1,rp p2])/\eb<w3.heap.size/\Below w.heap.size w w3:=by
 have hb:Below w.heap.size w w3:=(Ab.tr Ag).trans (Ak.mono (Yr Ab.size Ag.size));have Ah:eb<w1.heap.size:=(Ym.1 Ad).1;have Aa:eb<w3.heap.size:=Yt Ah (Yr Ag.size Ak.size);have hM:=h.use hb Aq Aa
 have Dp:∀p,w1.heap.size<=p->p∉eb::L:=fun p hp hk=>by
  exact bDt
 have Ae:∀p v,w1.heap.size<=p->w2.cell? ⟨p,0,none⟩=some v->Fz (eb::L) w3 p v:=fun p v hp hv=>Fz.new ((Ak.cell (Yi _ _ hv)).trans hv) (Dp p hp);refine⟨hM,(Tn.of_below hb).use Aq,⟨Zc,hx,none,0,?_,?_⟩,⟨p0,p1,p2,rfl,Ae _ _ hp.1 h0,Ae _ _ hp.2.1 h1,Ae _ _ hp.2.2 h2⟩,Aa,hb⟩
 . unfold aX;rw[Ak.block eb (Yt Ah Ag.size),Ag.block eb Ah];exact Ad
 . rw[Bs];exact aS.nil_ _
theorem vT{eb:Nat}{new:List Fr}{vt:LV}{x:Ex}(h:aP w b A n c all r va st vp ps sz L)(hM:aP w1 b A n c all r2 va st vp ps sz L)(hT:Tn [b] L L w w1)(h3:aP w2 b A n c all r2 va st vp ps sz (eb::L))(Ec:Tn [] L (eb::L) w1 w2)(hE:jL (eb::L) w2 eb x)(Bs:w.heap.size<=eb)
 (hF:kC (eb::L) w2 b new vt [eb]){e:Ending}(hx:e=.returned (.tuple #[])/\∃Aa L',aP w' b A n c all r2 Aa (vt++st) vp ps sz L'/\Tn (dZ b va) (eb::L) L' w2 w'/\dQ w2 va Aa):bF w b A n c all va st vp L ft (.ok (new,ps,sz) r2) e w':=by
 obtain⟨Dg,Aq,Ae⟩:=oO h3 hE;refine zQ (fts:=[eb]) h ((hT.mono eZ).trans Ec h.lv (fun k hk=>absurd hk Yl)) h3 (dQ.refl _ _) hF (aBv _) (fun k hk=>.inr ?_) (fun k hk=>?_) hx
 . rw[Yp.1 hk];exact Bs
 . rw[Yp.1 hk];refine⟨Dg,Aq,fun hv=>?_,Ae⟩
   have:=h.lv eb (h.lp eb hv)
   omega
theorem kQ(l:LV)(T:TypeId)(hl:l.length<=100)(h:aP w b A n c all r va st vp ps sz L)(Av:st.length<=1000000)(h1:Fns l):
 Calls Tryz.prog 246 #[rp b,.slice (some ⟨w.heap.size,0,none⟩) l.length l.length] (w.alloc (.cells l.toArray T)) fun e w'=>e=.returned (.tuple #[])/\
  ∃Aa L',aP w' b A n c all r Aa (l++st) vp ps sz L'/\Tn (dZ b va) L L' (w.alloc (.cells l.toArray T)) w'/\dQ (w.alloc (.cells l.toArray T)) va Aa:=
 aAg l [(l.toArray,T)] 0 T hl h Av (news rfl) rfl h1 (h.alloc _) (lT h.lv 0)
def pY(L:LN)(w:World)(l:List (Nat × Value)):Prop:=∀x∈l,Fz L w x.1 x.2
theorem jA(L:LN)(w:World):pY L w []:=fun x h=>absurd h Yl
theorem bH{p:Nat}{v:Value}{l:List (Nat × Value)}(h:Fz L w p v)(k:pY L w l):pY L w ((p,v)::l):=fun x hx=>by
 rcases Yw.1 hx with rfl|hx;· exact h
 . exact k x hx
theorem pY.up{l:List (Nat × Value)}(k:pY L w l)(h:Tn S L L1 w w1)(hS:∀k∈S,k∈L):pY L1 w1 l:=fun x hx=>(k x hx).up h hS
theorem pY.at_{l:List (Nat × Value)}(k:pY L w l)(i:Nat)(p:Nat)(v:Value)(h:l[i]?=some (p,v)):w.cell? ⟨p,0,none⟩=some v:=(k (p,v) (List.mem_of_getElem? h)).get
theorem bS:∀k∈([]:LN),k∈L:=fun k hk=>absurd hk Yl
theorem gI(o:Obj):Tn [] L L w (w.alloc o):=Tn.of_below ((Yg _ _).alloc (Yh _) o)
theorem bO7(s:LU)(k:Int)(o:Lv)(p0 p1 p2 p3:Nat)(hs:fQ s)(h:aP w b A n c all r va st vp ps sz L)(Av:st.length<=1000000)(Be:1<=ps.length/\ps.length<=1000000)(h0:Fz L w p0 (rp b))(h1:Fz L w p1 (.string (aZ s)))(h2:Fz L w p2 (bA b o))(h3:Fz L w p3 (.int .i64 k)):
 Calls Tryz.prog 262 #[rp p0,rp p1,rp p2,rp p3] w (bF w b A n c all va st vp L [] (dG (.right s k o) ps sz r)):=by
 have HM:=Hd h;have c0:=h0.get;have c1:=h1.get;have HZ:=Hd (bH h0 (bH h2 (bH h3 (jA L w))));have Cv:=cV h;show Calls _ _ _ _ (bF w b A n c all va st vp L [] (if aG s r=true then .ok ([.m o,.made (dX k) (ps.length-1)],ps,sz) r.tail else .ok ([],ps,sz) r));cases hi:aG s r with
 |false=>
  have HT:=Hd (gO (aZ s) hs h.q hi);clear h h0 h1 h2 h3 hi Cv HZ;generalize aZ s=ss at *;go_in
  go_wp2_with fail;refine HT.o.mono ?_;exact bCl
 |true=>
  have HT:=Hd (mG (aZ s) hs h.q hi);have HP:=Hd Be;clear h h0 h1 h2 h3 hi Be;rw[if_pos rfl];generalize aZ s=ss at *;go_in
  go_wp2_with fail;refine HT.o.mono ?_;rintro e w1 ⟨rfl,hq,hb⟩;obtain⟨Bt,Bf⟩:=HM.o.move hq hb;have Bc:=Hd Bt;have Ct:=Hd Bf;have Bn:=Hd (HZ.o.up Bf Cv);have d0:=Bn.o.at_ 0 p0 _ rfl;have d1:=Bn.o.at_ 1 p2 _ rfl;have d2:=Bn.o.at_ 2 p3 _ rfl;have l0:=Yi _ _ d0;have l1:=Yi _ _ d1;have l2:=Yi _ _ d2;clear hq hb Bt Bf c0 c1 HZ;go_upto_region 1 with(fail);go_region_held3 (fun W=>W.cell? ⟨p0,0,none⟩=some (rp b)/\W.cell? ⟨p2,0,none⟩=some (bA b o)/\W.cell? ⟨p3,0,none⟩=some (.int .i64 k)) (first|exact⟨d0,d1,d2⟩|exact⟨(Yj _ _ _ l0).trans d0,(Yj _ _ _ l1).trans d1,(Yj _ _ _ l2).trans d2⟩|exact⟨e0,e1,e2⟩|exact⟨(Yj _ _ _ m0).trans e0,(Yj _ _ _ m1).trans e1,(Yj _ _ _ m2).trans e2⟩|exact⟨f0,f1,f2⟩)
   ((first
     |(go_at_call 263;refine(lC (b:=b) (L:=L) 1 w1.heap.size (show aP _ b A n c all r.tail va st vp ps sz L by first|exact Bc.o.alloc _|exact(Bc.o.alloc _).drew|exact(Bc.o.drew).alloc _) HP.o.1 HP.o.2).mono ?_;rintro e Wa ⟨a0,a1,a2,rfl,Aq,Fs,Ca,Ce,Bs⟩;have Aa:=Hd (qC (x:=dX k) Bc.o rfl rfl (by exact((Yg _ _).alloc (Yh _) _).drew) (Yh _) yU Aq Fs Ca Ce Bs (Yg _ _));have Ae:=Hd (Bn.o.up Aa.o.2.1 bS);have e0:=Ae.o.at_ 0 p0 _ rfl;have e1:=Ae.o.at_ 1 p2 _ rfl;have e2:=Ae.o.at_ 2 p3 _ rfl;have m0:=Yi _ _ e0;have m1:=Yi _ _ e1;have m2:=Yi _ _ e2;clear Aq Fs Ca Ce Bs)
     |(go_at_call 246;refine(kQ [bA b o,aN 273 #[rp a0,rp a1,rp a2]] 1 aC Aa.o.1 Av (cJ (cJ iB))).mono ?_;rintro e Wb ⟨rfl,hx⟩;have HX:=Hd hx;obtain⟨Kw,L3,Er,Ec,Ib⟩:=hx;have Hq:=Hd ((Ae.o.up (gI _) bS).up Ec (mJ Aa.o.1));have f0:=Hq.o.at_ 0 p0 _ rfl;have f1:=Hq.o.at_ 1 p2 _ rfl;have f2:=Hq.o.at_ 2 p3 _ rfl;clear Er Ec Ib)))
  go_wp2_with fail;go_end0
  have Cc:=(gI (L:=w1.heap.size::L) (w:=Wa) (.cells #[bA b o,aN 273 #[rp a0,rp a1,rp a2]] 1));have hE:=Aa.o.2.2.1.up Cc bS Yl;exact vT (eb:=w1.heap.size) (x:=dX k) (new:=[.m o,.made (dX k) (ps.length-1)]) (vt:=[bA b o,aN 273 #[rp a0,rp a1,rp a2]]) HM.o Bc.o Ct.o (Aa.o.1.alloc _) (Aa.o.2.1.trans Cc Bc.o.lv (fun k hk=>.inl hk)) hE Ct.o.size ⟨[],[w1.heap.size],rfl,⟨rfl,rfl⟩,[w1.heap.size],[],rfl,⟨w1.heap.size,rfl,hE,Aa.o.2.2.2.1.up Cc bS⟩,rfl⟩ ⟨rfl,HX.o⟩
end
end
section
open Go.RowKit Go.Sort
theorem aG3{w w':World}{m:Nat}(h:Below (w.drewN m).heap.size (w.drewN m) w'):Below w.heap.size w w':=⟨h.os,h.tape,h.output,h.size,h.block⟩
section
variable {w w1 w2 w':World}{b:Nat}{A:OA}{n c:Nat}{all r r' r2:List Tk}{va va1 vp:Value}{st:LV}{ps:List Ex}{sz:Nat}{L L1 L2 S ft:LN}
theorem aVu(op:Int)(w:World):
 Calls Tryz.prog 283 #[.int .i64 op] w fun e w'=>∃g,e=.returned (rp g)/\w.heap.size<=g/\Below w.heap.size w w'/\w'.heap[g]?=some (.cells (aJ (jI 6 op) none 0 none 0) 79):=
 (bTo op w).mono fun e w' h=>⟨w.heap.size,h.1,Yh _,by rw[h.2];exact(Yg _ _).alloc (Yh _) _,by rw[h.2];exact Xa _ _⟩
theorem bTr(zs:List (Int × ByteArray))(Aa:Lv)(p0 p1 p2 p3 g c1:Nat)(hz:qS zs)(h:aP w b A n c all r va st vp ps sz L)(Av:st.length<=1000000)(Be:1<=ps.length/\ps.length<=1000000)(h0:Fz L w p0 (rp b))(h1:Fz L w p1 (.slice (some ⟨g,0,none⟩) zs.length c1))(ho:∀i,i<zs.length->(fR L w).cell? ⟨g,i,none⟩=some (.int .i64 (zs[i]?.getD default).1))(h2:Fz L w p2 (bA b Aa))(h3:Fz L w p3 (aN 281 #[rp p0,rp p1,rp p2,rp p3])):
 Calls Tryz.prog 281 #[rp p0,rp p1,rp p2,rp p3] w (bF w b A n c all va st vp L [] (dG (.left (gY zs) Aa) ps sz r)):=by
 have HM:=Hd h;have c0:=h0.get;have Nk:=h1.get;have HZ:=Hd (bH h0 (bH h2 (bH h3 (jA L w))));have Cv:=cV h;show Calls _ _ _ _ (bF w b A n c all va st vp L [] (if cR (gY zs) r≠0 then .ok ([.m Aa,.made (jI 6 (cR (gY zs) r)) (ps.length-1),.left (gY zs) Aa],ps,sz) r.tail else .ok ([],ps,sz) r));have Ni:=Hd (show sS L w b (.left (gY zs) Aa) (aN 281 #[rp p0,rp p1,rp p2,rp p3]) []from⟨rfl,zs,rfl,hz,p0,p1,p2,p3,g,c1,rfl,h0,h1,ho,h2,h3⟩);have HT:=Hd (aRm zs g c1 h.q hz fun i hi=>aQl h.lb _ _ (ho i hi));have HP:=Hd Be;generalize Hb:cR (gY zs) r=op at *;have HR:=Hd (show opR (gY zs) r=if op=0 then r else r.tail from by rw[<-Hb];rfl);clear h h0 h1 h2 h3 ho hz Be Hb;generalize hm:zs.length=m at *;clear hm;cases Jw:(op !=0)with
 |false=>
  exact bHf
 |true=>
  have Ei:¬op=0:=aJf;rw[HR.o,if_neg Ei]at HT;rw[if_pos Ei];clear HR Ei;go_in
  go_wp2_with fail;refine HT.o.mono ?_;rintro e w1 ⟨rfl,hq,hb⟩;obtain⟨Bt,Bf⟩:=HM.o.move hq hb;have Bc:=Hd Bt;have Ct:=Hd Bf;have Bn:=Hd (HZ.o.up Bf Cv);have d0:=Bn.o.at_ 0 p0 _ rfl;have d1:=Bn.o.at_ 1 p2 _ rfl;have d2:=Bn.o.at_ 2 p3 _ rfl;have l0:=Yi _ _ d0;have l1:=Yi _ _ d1;have l2:=Yi _ _ d2;clear hq hb Bt Bf c0 Nk HZ;go_upto_region 2 with(fail);go_region_held3 (fun W=>W.cell? ⟨p0,0,none⟩=some (rp b)/\W.cell? ⟨p2,0,none⟩=some (bA b Aa)/\W.cell? ⟨p3,0,none⟩=some (aN 281 #[rp p0,rp p1,rp p2,rp p3])) (first|exact⟨d0,d1,d2⟩|exact⟨(Yj _ _ _ l0).trans d0,(Yj _ _ _ l1).trans d1,(Yj _ _ _ l2).trans d2⟩|exact⟨z0,z1,z2⟩|exact⟨e0,e1,e2⟩|exact⟨(Yj _ _ _ m0).trans e0,(Yj _ _ _ m1).trans e1,(Yj _ _ _ m2).trans e2⟩|exact⟨f0,f1,f2⟩)
   ((first
     |(go_at_call 283;refine(aVu op _).mono ?_;rintro e Wz ⟨g0,rfl,Ha,Kf,Ng⟩;have Bs:Hid (Below w1.heap.size w1 Wz):=Hd bFt;have Nj:=Hd Ng;have Ed:Hid (w1.heap.size<=g0):=Hd Ha;have Fs:=Hd (Bn.o.up (Tn.of_below (S:=[]) Bs.o) bS);have z0:=Fs.o.at_ 0 p0 _ rfl;have z1:=Fs.o.at_ 1 p2 _ rfl;have z2:=Fs.o.at_ 2 p3 _ rfl;clear Kf Ng Ha)
     |(go_at_call 263;refine(lC (b:=b) (L:=L) 1 g0 (Bc.o.below Bs.o) HP.o.1 HP.o.2).mono ?_;rintro e Wa ⟨a0,a1,a2,rfl,Jx,Nh,Ca,Ce,Hc⟩;have Ae:=Hd (qC (x:=jI 6 op) Bc.o rfl rfl Bs.o Ed.o Nj.o Jx Nh Ca Ce Hc (Yg _ _));have Aq:=Hd (Bn.o.up Ae.o.2.1 bS);have e0:=Aq.o.at_ 0 p0 _ rfl;have e1:=Aq.o.at_ 1 p2 _ rfl;have e2:=Aq.o.at_ 2 p3 _ rfl;have m0:=Yi _ _ e0;have m1:=Yi _ _ e1;have m2:=Yi _ _ e2;clear Jx Nh Ca Ce Hc)
     |(go_at_call 246;refine(kQ [bA b Aa,aN 273 #[rp a0,rp a1,rp a2],aN 281 #[rp p0,rp p1,rp p2,rp p3]] 1 aC Ae.o.1 Av (cJ (cJ (cJ (iB))))).mono ?_;rintro e Wb ⟨rfl,hx⟩;have HX:=Hd hx;obtain⟨Kw,L3,Er,Ec,Ib⟩:=hx;have Hq:=Hd ((Aq.o.up (gI _) bS).up Ec (mJ Ae.o.1));have f0:=Hq.o.at_ 0 p0 _ rfl;have f1:=Hq.o.at_ 1 p2 _ rfl;have f2:=Hq.o.at_ 2 p3 _ rfl;clear Er Ec Ib)))
  go_wp2_with fail;go_end0
  have Cc:=(gI (L:=g0::L) (w:=Wa) (.cells #[bA b Aa,aN 273 #[rp a0,rp a1,rp a2],aN 281 #[rp p0,rp p1,rp p2,rp p3]] 1));have hE:=Ae.o.2.2.1.up Cc bS Yl;refine vT (eb:=g0) (x:=jI 6 op) (new:=[.m Aa,.made (jI 6 op) (ps.length-1),.left (gY zs) Aa]) (vt:=[bA b Aa,aN 273 #[rp a0,rp a1,rp a2],aN 281 #[rp p0,rp p1,rp p2,rp p3]]) HM.o Bc.o Ct.o (Ae.o.1.alloc _) (Ae.o.2.1.trans Cc Bc.o.lv (fun k hk=>.inl hk)) hE (Yr Ct.o.size Ed.o) ?_ ⟨rfl,HX.o⟩;exact⟨[],[g0],rfl,⟨rfl,rfl⟩,[g0],[],rfl,⟨g0,rfl,hE,Ae.o.2.2.2.1.up Cc bS⟩,[],[],rfl,((Ni.o.up Ct.o Cv (fun k hk=>absurd hk Yl)).up Ae.o.2.1 bS (fun k hk=>absurd hk Yl)).up Cc bS (fun k hk=>absurd hk Yl),rfl⟩
theorem bTs(zs:List (Int × ByteArray))(Aa:Lv)(p0 p1 p2 g c1:Nat)(hz:qS zs)(h:aP w b A n c all r va st vp ps sz L)(Av:st.length<=1000000)(Be:1<=ps.length/\ps.length<=1000000)(h0:Fz L w p0 (rp b))(h1:Fz L w p1 (.slice (some ⟨g,0,none⟩) zs.length c1))(ho:∀i,i<zs.length->(fR L w).cell? ⟨g,i,none⟩=some (.int .i64 (zs[i]?.getD default).1))(h2:Fz L w p2 (bA b Aa)):
 Calls Tryz.prog 297 #[rp p0,rp p1,rp p2] w (bF w b A n c all va st vp L [] (dG (.once (gY zs) Aa) ps sz r)):=by
 have HM:=Hd h;have c0:=h0.get;have Nj:=h1.get;have HZ:=Hd (bH h0 (bH h2 (jA L w)));have Cv:=cV h;show Calls _ _ _ _ (bF w b A n c all va st vp L [] (if cR (gY zs) r≠0 then .ok ([.m Aa,.made (jI 6 (cR (gY zs) r)) (ps.length-1)],ps,sz) r.tail else .ok ([],ps,sz) r))
 skip
 have HT:=Hd (aRm zs g c1 h.q hz fun i hi=>aQl h.lb _ _ (ho i hi));have HP:=Hd Be;generalize Fs:cR (gY zs) r=op at *;have HR:=Hd (show opR (gY zs) r=if op=0 then r else r.tail from by rw[<-Fs];rfl);clear h h0 h1 h2 ho hz Be Fs;generalize hm:zs.length=m at *;clear hm;cases Jw:(op !=0)with
 |false=>
  exact bHf
 |true=>
  have Ei:¬op=0:=aJf;rw[HR.o,if_neg Ei]at HT;rw[if_pos Ei];clear HR Ei;go_in
  go_wp2_with fail;refine HT.o.mono ?_;rintro e w1 ⟨rfl,hq,hb⟩;obtain⟨Bt,Bf⟩:=HM.o.move hq hb;have Bc:=Hd Bt;have Hb:=Hd Bf;have Bn:=Hd (HZ.o.up Bf Cv);have d0:=Bn.o.at_ 0 p0 _ rfl;have d1:=Bn.o.at_ 1 p2 _ rfl;have l0:=Yi _ _ d0;have l1:=Yi _ _ d1;clear hq hb Bt Bf c0 Nj HZ;go_upto_region 2 with(fail);go_region_held3 (fun W=>W.cell? ⟨p0,0,none⟩=some (rp b)/\W.cell? ⟨p2,0,none⟩=some (bA b Aa)) (first|exact⟨d0,d1⟩|exact⟨(Yj _ _ _ l0).trans d0,(Yj _ _ _ l1).trans d1⟩|exact⟨z0,z1⟩|exact⟨e0,e1⟩|exact⟨(Yj _ _ _ m0).trans e0,(Yj _ _ _ m1).trans e1⟩|exact⟨f0,f1⟩)
   ((first
     |(go_at_call 283;refine(aVu op _).mono ?_;rintro e Wz ⟨g0,rfl,Ct,Kf,Ng⟩;have Aq:Hid (Below w1.heap.size w1 Wz):=Hd bFt;have Ni:=Hd Ng;have Ed:Hid (w1.heap.size<=g0):=Hd Ct;have Hc:=Hd (Bn.o.up (Tn.of_below (S:=[]) Aq.o) bS);have z0:=Hc.o.at_ 0 p0 _ rfl;have z1:=Hc.o.at_ 1 p2 _ rfl;clear Kf Ng Ct)
     |(go_at_call 263;refine(lC (b:=b) (L:=L) 1 g0 (Bc.o.below Aq.o) HP.o.1 HP.o.2).mono ?_;rintro e Wa ⟨a0,a1,a2,rfl,Jx,Nh,Ca,Ce,Ha⟩;have Ae:=Hd (qC (x:=jI 6 op) Bc.o rfl rfl Aq.o Ed.o Ni.o Jx Nh Ca Ce Ha (Yg _ _));have Bs:=Hd (Bn.o.up Ae.o.2.1 bS);have e0:=Bs.o.at_ 0 p0 _ rfl;have e1:=Bs.o.at_ 1 p2 _ rfl;have m0:=Yi _ _ e0;have m1:=Yi _ _ e1;clear Jx Nh Ca Ce Ha)
     |(go_at_call 246;refine(kQ [bA b Aa,aN 273 #[rp a0,rp a1,rp a2]] 1 aC Ae.o.1 Av (cJ (cJ (iB)))).mono ?_;rintro e Wb ⟨rfl,hx⟩;have HX:=Hd hx;obtain⟨Kw,L3,Er,Ec,Ib⟩:=hx;have Hq:=Hd ((Bs.o.up (gI _) bS).up Ec (mJ Ae.o.1));have f0:=Hq.o.at_ 0 p0 _ rfl;have f1:=Hq.o.at_ 1 p2 _ rfl;clear Er Ec Ib)))
  go_wp2_with fail;go_end0
  have Cc:=(gI (L:=g0::L) (w:=Wa) (.cells #[bA b Aa,aN 273 #[rp a0,rp a1,rp a2]] 1));have hE:=Ae.o.2.2.1.up Cc bS Yl;refine vT (eb:=g0) (x:=jI 6 op) (new:=[.m Aa,.made (jI 6 op) (ps.length-1)]) (vt:=[bA b Aa,aN 273 #[rp a0,rp a1,rp a2]]) HM.o Bc.o Hb.o (Ae.o.1.alloc _) (Ae.o.2.1.trans Cc Bc.o.lv (fun k hk=>.inl hk)) hE (Yr Hb.o.size Ed.o) ?_ ⟨rfl,HX.o⟩;exact⟨[],[g0],rfl,⟨rfl,rfl⟩,[g0],[],rfl,⟨g0,rfl,hE,Ae.o.2.2.2.1.up Cc bS⟩,rfl⟩
end
end
end Go.Proofs.YtagkcjpoipcpkaaGreatDoor
