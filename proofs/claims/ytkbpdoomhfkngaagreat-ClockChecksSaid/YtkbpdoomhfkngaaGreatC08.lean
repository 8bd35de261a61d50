/- A part of the proof. Conditions: each theorem's own. -/
import Derived.Test.YtkbpdoomhfkngaaGreatC07
namespace Go.Proofs.YtkbpdoomhfkngaaGreat
set_option linter.unusedVariables false
set_option linter.unusedSimpArgs false
set_option maxRecDepth 100000
set_option maxHeartbeats 40000000
structure Cd where
 nm:ByteArray
 v:Int
instance :Inhabited Cd:=⟨⟨⟨#[]⟩,0⟩⟩
def gB(a b:Cd):Bool:=(a.nm.toList==b.nm.toList) && (a.v==b.v)
theorem yA{a b:ByteArray}(h:(a.toList==b.toList)=true):a=b:=by
 rw[Zc,Zc,beq_iff_eq]at h;obtain⟨a⟩:=a;obtain⟨b⟩:=b;exact congrArg ByteArray.mk (Array.toList_inj.1 h)
theorem aDq{a b:Cd}:gB a b=true↔a=b:=by
 constructor
 . intro h;simp only[gB,Ys]at h;obtain⟨a1,a2⟩:=a;obtain⟨b1,b2⟩:=b;have h1:=yA h.1;have h2:=beq_iff_eq.1 h.2;simp only at h1 h2;rw[h1,h2]
 . rintro rfl;simp[gB]
abbrev dD (a b:List Cd):Bool:=kO gB a b
theorem yB:∀{a b:List Cd},dD a b=true↔a=b
 |[],[]=>by simp[dD,kO]
 |[],b::m=>by simp[dD,kO]
 |a::l,[]=>by simp[dD,kO]
 |a::l,b::m=>by
  have ih:=yB (a:=l) (b:=m);simp only[dD]at ih;simp only[dD,kO,Ys,aDq,ih,List.cons.injEq]
theorem aG8(a:List Cd):dD a a=true:=yB.2 rfl
theorem aCl{a b:List Cd}(h:a≠b):dD a b=false:=by
 cases hc:dD a b with
 |false=>rfl
 |true=>exact absurd (yB.1 hc) h
def nT(es:List En)(d:Dc):Option Cd:=(bP es d.ct).map fun r=>⟨d.on,r.2.2⟩
def gS(es:List En):List Dc->Option (List Cd)
 |[]=>some []
 |d::l=>match nT es d with
  |none=>none
  |some c=>(gS es l).map (c::·)
def cR(es:List En)(n:Nd)(s:ByteArray):Option (List Cd):=(jY n s).bind (gS es)
def dO(es:List En)(n:Nd)(s:ByteArray)(on:List Cd):Bool:=match cR es n s with
 |none=>false
 |some r=>dD r on
theorem aKn{es:List En}{n:Nd}{s:ByteArray}{on:List Cd}:dO es n s on=true↔cR es n s=some on:=by
 unfold dO;cases cR es n s with
 |none=>simp
 |some r=>simp only[Option.some.injEq];exact yB
theorem xK{es:List En}:∀{l:List Dc}{cs:List Cd},gS es l=some cs->cs.length=l.length
 |[],cs,h=>by injection h with h;subst h;rfl
 |d::l,cs,h=>by
  simp only[gS]at h;cases hc:nT es d with
  |none=>rw[hc]at h;cases h
  |some c=>
   rw[hc]at h;obtain⟨t,h1,rfl⟩:=Option.map_eq_some_iff.1 h;simp[xK h1]
theorem aG9{es:List En}:∀{a b:List Dc}{ca:List Cd},gS es a=some ca->gS es (a++b)=(gS es b).map (ca++·)
 |[],b,ca,h=>by injection h with h;subst h;simp
 |d::a,b,ca,h=>by
  simp only[gS]at h;cases hc:nT es d with
  |none=>rw[hc]at h;cases h
  |some c=>
   rw[hc]at h;obtain⟨t,h1,rfl⟩:=Option.map_eq_some_iff.1 h;simp only[Yv,gS,hc,aG9 h1,Option.map_map];rfl
theorem aGk{es:List En}{l:List Dc}{cs:List Cd}{k:Nat}{c:Cd}(hk:k<l.length)(h:gS es (l.take k)=some cs)(hc:nT es (l[k]?.getD default)=some c):gS es (l.take (k+1))=some (cs++[c]):=by
 rw[Yk hk,Yt]at hc;rw[List.take_succ_eq_append_getElem hk,aG9 h];simp[gS,hc]
theorem aHa{es:List En}:∀{l:List Dc}{d:Dc},d∈l->nT es d=none->gS es l=none
 |a::l,d,hd,h=>by
  simp only[gS];cases hc:nT es a with
  |none=>rfl
  |some c=>
   rcases Yu.1 hd with rfl|hd;· rw[h]at hc;cases hc
   . simp only[aHa hd h,Option.map_none]
theorem aIg{es:List En}{l:List Dc}{k:Nat}(hk:k<l.length)(hc:nT es (l[k]?.getD default)=none):gS es l=none:=by
 rw[Yk hk,Yt]at hc;exact aHa (Zh hk) hc
theorem aHb{n:Nd}:∀(k:Nat)(s:ByteArray)(Aq l:List Dc),iS n k s Aq=some l->l.length<=Aq.length+k
 |0,s,Aq,l,h=>by cases h
 |k+1,s,Aq,l,h=>by
  rw[iS]at h;cases hd:aZ n s with
  |none=>rw[hd]at h;cases h
  |some d=>
   rw[hd]at h;simp only at h;split at h
   . injection h with h;subst h;omega
   . have:=aHb k _ _ _ h
     rw[Yo]at this;omega
theorem aB4{n:Nd}{s:ByteArray}{l:List Dc}(h:jY n s=some l):l.length<=1000:=by
 have:=aHb 13 s [] l h
 simp at this;omega
abbrev Ft:=List Cd->Bool
def cL(fs:List Ft)(i:Nat):Ft:=fs[i]?.getD fun _=>false
def nU(es:List En)(n:Nd)(x:Ex)(fs:List Ft)(on:List Cd):Bool:=match cR es n x.s with
 |none=>false
 |some row=>match bP es (x.arms[0]?.getD ByteArray.empty)with
  |none=>false
  |some r=>decide (x.arms.length=1) && decide (x.subs.length=1) && (dD on (row++[⟨x.s,r.2.2⟩]) && cL fs 0 row)
def iC(es:List En)(x:Ex)(fs:List Ft)(on:List Cd)(k:Nat):Bool:=match bP es (x.arms[k]?.getD ByteArray.empty)with
 |none=>false
 |some r=>cL fs k (on++[⟨x.s,r.2.2⟩])
def oW(es:List En)(n:Nd)(x:Ex)(fs:List Ft)(on:List Cd):Bool:=
 dO es n x.s on && decide (x.arms.length=x.subs.length) && (List.range x.subs.length).all (iC es x fs on)
def aA2(es:List En)(n:Nd)(x:Ex)(fs:List Ft)(on:List Cd):Bool:=
 if(x.k==1 || x.k==2 || x.k==4)=true then true
 else if(x.k==3)=true then dO es n x.s on
 else if(x.k==8)=true then decide (x.subs.length=2) && cL fs 1 on
 else if(x.k==11)=true then nU es n x fs on
 else if(x.k==12)=true then oW es n x fs on
 else if(x.k==17)=true then false
 else(List.range x.subs.length).all fun k=>cL fs k on
mutual
def gX(es:List En)(n:Nd):Ex->Ft
 |.mk k m s op arms Aq=>aA2 es n (.mk k m s op arms Aq) (wQ es n Aq)
def wQ(es:List En)(n:Nd):List Ex->List Ft
 |[]=>[]
 |x::l=>gX es n x::wQ es n l
end
theorem aKo(es:List En)(n:Nd):∀l,wQ es n l=l.map (gX es n)
 |[]=>by simp only[wQ,List.map_nil]
 |x::l=>by simp only[wQ,Xh,aKo es n l]
theorem aKp(es:List En)(n:Nd)(x:Ex):gX es n x=aA2 es n x (x.subs.map (gX es n)):=by
 cases x;simp only[gX,aKo,Ex.subs]
theorem sX{es:List En}{n:Nd}{x:Ex}{i:Nat}(h:i<x.subs.length):cL (x.subs.map (gX es n)) i=gX es n (aM x i):=by
 unfold cL aM;rw[List.getElem?_map,Yk h];rfl
def wA(p:Pg)(i:Int)(s:ByteArray):Option (List Cd):=if i<0\/(p.ns.length:Int)<=i then none else cR p.es (aB p i.toNat) s
def eY(p:Pg)(i:Nat)(s:ByteArray):List Cd:=(cR p.es (aB p i) s).getD []
def lY(p:Pg)(i:Nat)(q:Qn):Bool:=
 q.ns.all (fun s=>dD (eY p i s) (eY p i (q.ns[0]?.getD ByteArray.empty))) && gX p.es (aB p i) q.x (eY p i (q.ns[0]?.getD ByteArray.empty))
def lF(p:Pg)(i j:Nat):Fl:=if lY p i ((aB p i).eqs[j]?.getD default)=true then(0,0,0)else((i:Int),(j:Int),8)
def jH(p:Pg)(i:Nat)(d:Dc):Bool:=(cR p.es (aB p i) d.nm).isSome
def fU(p:Pg)(i:Nat):Fl:=
 if(aB p i).all.all (jH p i)=false then((i:Int),-1,8)else dY ((0,0,0):Fl) (lF p i) (aB p i).eqs.length
theorem uN{n:Nat}{f:Nat->Bool}:(List.range n).all f=true↔∀i,i<n->f i=true:=by simp[Zg]
theorem aB5{n k:Nat}{f:Nat->Bool}(hk:k<n)(h:f k=false):(List.range n).all f=false:=by
 cases hc:(List.range n).all f with
 |false=>rfl
 |true=>rw[uN.1 hc k hk]at h;cases h
section
open Go.RowKit Go.Sort
section
variable {P:Program}{w:World}
theorem aBa{ops:Array Oper}{rest:List Oper}{o:Oper}{a:Act}{Q:Exit->Act->World->Prop}(Nv:o.guard=none)(s x:Operand)(t:TypeId)
 (ho:o.op=.call { callee:=.builtin .append,args:=#[s,x],argTypes:=#[t,t] })
 (base:Nat)(e:TypeId)(i:TypeInfo)(z:Value)(Aq:Nat)(ht:P.underlying t=some (.slice e))(hi:P.info? e=some i)(hz:i.zero=some z)
 (Bx:i.size=6)(Nx:i.bytes=Aq)(Ny:z.cells.size=6)
 (v:Value)(n:Nat)(xs:List Dc)(hs:a.eval s=v)(Bq:w.ownsRow base e 6 v n (dV xs))
 (A:Option Addr)(m c:Nat)(l:List Dc)(hx:a.eval x=.slice A m c)(hr:bZ w A m l)
 (Nw:n+m<=maxLen)(Bp:(n+m)*Aq<=140737488355328)(Jx:base<=w.heap.size)
 (h:∀v' w',w'.ownsRow base e 6 v' (n+m) (dV (xs++l))->w.grownBy w' v.ownBlock->wpList P ops Q rest (a.put o.dst v') w'):wpList P ops Q (o::rest) a w:=by
 obtain⟨hA,Nu⟩:=hr.news;have Nt:=aI.len hr;rcases A with _|ad
 . obtain rfl:m=0:=hA rfl;obtain rfl:l=[]:=Zr Nt;refine wpList_plain Nv fun K hK=>?_;have Jg:=xA (P:=P) (w:=w) base t o.type e i 6 ht hi v n _ Bq c;exact aM5
 . exact wpList_append_own_at w Nv s x t ho base e i z 6 Aq ht hi hz Bx Nx Ny bS v n _ hs Bq ad m c (dV l) hx (by rw[rL,Nt]) (fun j u hu=>Nu ad rfl j u hu) (xZ l) Nw Bp Jx fun v' w' h1 h2 _ _=>h v' w' (by rw[aC8];exact h1) h2
end
theorem gK.cells{w:World}{g:Nat}{d:Dc}(h:gK w g d)(j:Nat):w.cell? ⟨g,j,none⟩=(aU d)[j]?:=by
 exact aEf
def xP(w:World)(o:Option (List Dc))(e:Ending)(w':World):Prop:=
 Below w.heap.size w w'/\match o with
  |none=>e=.returned (.tuple #[.slice none 0 0,.bool false])
  |some l=>∃A c,e=.returned (.tuple #[.slice A l.length c,.bool true])/\bZ w' A l.length l
def vG(x:Nd)(Au:Option (List Dc))(w:World)(k:Nat)(t:ByteArray)(v:Value):Prop:=
 ∃Aq A c,v=.slice A Aq.length c/\bZ w A Aq.length Aq/\Aq.length=k/\iS x (13-k) t Aq=Au
theorem vG.below{x:Nd}{Au:Option (List Dc)}{w w':World}{k:Nat}{t:ByteArray}{v:Value}(h:vG x Au w k t v)(hb:Below w.heap.size w w'):vG x Au w' k t v:=by
 obtain⟨Aq,A,c,e,h1,h2⟩:=h;exact⟨Aq,A,c,e,h1.below hb,h2⟩
theorem aGl(x:Nd)(k:Nat)(s:ByteArray)(Aq:List Dc):iS x (k+1) s Aq=match aZ x s with|none=>none|some d=>if eI d.on then some Aq else iS x k d.on (d::Aq):=rfl
theorem aZj(x:Nd)(A1:Option Addr)(c1:Nat)(A2:Option Addr)(c2:Nat)(A3:Option Addr)(c3:Nat)(A4:Option Addr)(c4:Nat)(s:ByteArray)(w:World)(h:cF w x A1 A2 A3 A4)(hn:x.all.length<=1000):
 Calls Tryz.prog 37 #[.agg (bK x A1 c1 A2 c2 A3 c3 A4 c4),.string s] w (xP w (jY x s)):=by
 have HF:=Hd fun w1 hw=>iE w x A1 c1 A2 c2 A3 c3 A4 c4 w1 hw h;have Dv:=Hd fun t w1 (hw:cF w1 x A1 A2 A3 A4)=>pT x A1 c1 A2 c2 A3 c3 A4 c4 t w1 hw hn;obtain⟨i0,z0,hi,Om,Ok,Cu,Oi⟩:=kG uY;have Ny:=Hd (show iS x 13 s []=jY x s from rfl);unfold bK at Dv⊢;generalize jY x s=Au at *;go_in
 go_upto_region 1 with(fail);generalize Ag:w.alloc _=w1;obtain⟨Aa,hg,Oh,hcell⟩:=HF.o w1 Ag;have Ac:=Hd Aa;have HC:=Hd hcell;have Bi:=Hd Oh;have Oc:=Hd (show vG x Au (w1.alloc (.cells #[] 43)) 0 s (.slice (some ⟨w1.heap.size,0,none⟩) 0 0) from by
  obtain⟨A,c,e,hr⟩:=bZ.of_own (l:=[]) (World.ownsRow_lit (base:=w1.heap.size) (e:=43) (size:=6) w1 #[] 0 (Yh _) bS rfl) aA;exact⟨[],A,c,e,hr,rfl,Ny.o⟩)
 have Mn:=Hd ((Yg w1.heap.size w1).alloc (Yh _) (.cells #[] 43));simp only[bK]at HC;rw[hg]at Oc;clear Ag hcell Aa HF h Oh Ny;go_wp2_with fail;go_loopw [1,6,7] (fun nm v i wr=>∃(k:Nat)(t:ByteArray),k<=13/\i=.int .i64 k/\nm=.string t/\vG x Au wr k t v/\Below w1.heap.size w1 wr) (fun _ _ i _=>13-(intOf i).toNat)
 case atStart=>exact⟨0,s,by omega,rfl,rfl,Oc.o,Mn.o⟩
 case round=>
  obtain⟨k,t,hk,rfl,rfl,Ca,Ba⟩:=hrel;have Cf:=Hd Ba;have hz:=Ba.size;rw[hg]at hz;by_cases Ah:k<13
  . obtain⟨Bp,A,c,rfl,Ap,Jx,Og⟩:=Ca;have Ed:=Hd Ap;have Bz:=Hd Og;obtain⟨q0,q1,q2,q3,q4,-⟩:=Sx (HC.o wr Ba);simp only[Ya,Yb,Yc]at q0 q1 q2 q3 q4;have HD:=Hd (Dv.o t wr (Bi.o.below Ba));have Ol:decide ((k:Int)<=12)=true:=Zy aA;rw[show 13-k=(12-k)+1 by omega,aGl]at Bz;clear Ap Og Ba;cases hd:aZ x t with
    |none=>
     rw[hd]at HD Bz;have HO:=Hd (show none=Au from Bz.o);go_wp2_with fail;refine HD.o.mono ?_;rintro e w2 ⟨rfl,Ad⟩;have Nu:=Hd (show gK (w2.alloc (.cells (aU default) 43)) w2.heap.size default from Zx _ _);have Aj:=Hd (Cf.o.tr Ad);have Ax:=Hd (Xc ((Aj.o).alloc Aj.o.size (.cells (aU default) 43)) (g:=w2.heap.size) Aj.o.size (aU default));unfold kY aU;unfold aU at Nu Ax;simp only[Option.getD_none,Option.isSome_none];clear q0 q1 q2 q3 q4;go_upto_region 6 with(refine Zv rfl _ _ _ rfl w2.heap.size _ rfl rfl _ _ Nu.o oU rfl aQ ?_);exact aNb
    |some d=>
     rw[hd]at HD Bz;have Bz:=Hd (show(if eI d.on then some Bp else iS x (12-k) d.on (d::Bp))=Au from Bz.o);go_wp2_with fail;refine HD.o.mono ?_;rintro e w2 ⟨rfl,Ad⟩;have Nu:=Hd (show gK (w2.alloc (.cells (aU default) 43)) w2.heap.size default from Zx _ _);have Aj:=Hd (Cf.o.tr Ad);have Od:=Xc ((Aj.o).alloc Aj.o.size (.cells (aU default) 43)) (g:=w2.heap.size) Aj.o.size (aU d);have Nw:=Nu.o.set d;have Of:=Xc ((Yg w2.heap.size w2).alloc (Yh _) (.cells (aU default) 43)) (g:=w2.heap.size) (Yh _) (aU d);have Aq:=(Ed.o.below Ad).below Of;have Fe:=Hd fun w4 (hw:(w2.alloc (.cells (aU default) 43)).setRow w2.heap.size (aU d)=w4)=>(show gK w4 w2.heap.size d/\Below w1.heap.size w1 w4/\bZ w4 A Bp.length Bp by subst hw;exact⟨Nw,Od,Aq⟩);unfold kY aU;unfold aU at Nu;simp only[Yt,Option.isSome_some];clear q0 q1 q2 q3 q4 Od Nw Of Aq Ad;go_upto_region 6 with(refine Zv rfl _ _ _ rfl w2.heap.size _ rfl rfl _ _ Nu.o oU rfl aQ ?_);generalize Oa:World.setRow _ _ _=w4;obtain⟨Nw,Oe,Aq⟩:=Fe.o w4 Oa;have Be:=Hd Oe;have Nv:=Hd Aq;generalize w2.heap.size=gb at *;obtain⟨r0,r1,r2,r3,r4,r5⟩:=Sx Nw.cells;simp only[aU,List.getElem?_toArray,Yz,Zb]at r0 r1 r2 r3 r4 r5;clear Oa Fe Nw Oe Aq Nu;cases h1:(d.on.toList==[])with
     |true=>
      have HO:=Hd (show some Bp=Au by have h:=Bz.o;rwa[show eI d.on=true by rw[Zc]at h1;exact h1,if_pos rfl]at h);rw[Jx]at Nv;go_wp2_with fail;refine Zu (results_tmp2 rfl _ _ _) rfl ?_;refine⟨Ac.o.trans (Be.o.mono aA),?_⟩;rw[<-HO.o];exact⟨A,c,by rw[Jx];rfl,by rw[Jx];exact Nv.o⟩
     |false=>
      have HO:=Hd (show iS x (13-(k+1)) d.on (d::Bp)=Au by have h:=Bz.o;rw[show eI d.on=false by rw[Zc]at h1;exact h1,if_neg aG]at h;rwa[show 13-(k+1)=12-k by omega]);have Bx:=Hd (World.ownsRow_lit (base:=w4.heap.size) (e:=43) (size:=6) w4 (aU d) 1 (Yh _) bS rfl);have Ch:=Hd ((Yg w4.heap.size w4).alloc (Yh _) (.cells (aU d) 43));have Nt:=Hd (Nv.o.below Ch.o);rw[Jx]at Nt;have Oj:=Hd (show(aU d).toList=dV [d]by rw[bCs];rfl);rw[Oj.o]at Bx;unfold aU at Bx Ch Nt;go_wp2_with (at_builtin;refine aBa rfl _ _ 32 rfl w4.heap.size 43 i0 z0 72 Tryz.underlying32 hi Om Ok Cu Oi _ 1 [d] rfl Bx.o A k c Bp rfl Nt.o dP aA Ch.o.size ?_;intro v' w5 Bb Ar;have Jj:=Ch.o.grown Ar Ch.o.size (fun j hj=>(Bx.o.lt j hj).1);have Jb:=Hd Bb;have Ck:=Hd Jj;have s4:=(Jj.cell (p:=⟨gb,4,none⟩) (Yi _ _ r4)).trans r4;clear Bb Ar Jj);have Ob:=Jb.o;obtain⟨A9,c9,e9,Nx⟩:=bZ.of_own (l:=d::Bp) Ob aA;subst e9;have Nz:=Hd Nx;clear Ob Nx;go_wp2_with fail;go_roundw;case rel=>exact⟨k+1,d.on,by omega,by go_num,rfl,⟨d::Bp,A9,c9,by rw[Yo,Jx,Nat.add_comm],by rw[Yo,Jx,Nat.add_comm k 1];exact Nz.o,by rw[Yo,Jx],HO.o⟩,Be.o.tr Ck.o⟩
      case measure=>simp[intOf];omega
  . obtain rfl:k=13:=by omega
    have HO:=Hd (show none=Au by obtain⟨Bp,A,c,e,h1,h2,h3⟩:=Ca;exact h3);have Ol:decide (((13:Nat):Int)<=12)=false:=bS;obtain⟨Bp,A,c,rfl,-,Jx,-⟩:=Ca;go_wp2_with fail;refine Zu (results_tmp2 rfl _ _ _) rfl ?_;refine⟨Ac.o.trans (Cf.o.mono aA),?_⟩;rw[<-HO.o];rfl
end
section
open Go.RowKit Go.Sort
def kP(x:Nd)(k:Nat):List Dc:=match k with|0=>x.ins|1=>x.outs|_=>x.vars
def tT(x:Nd)(s:ByteArray)(k:Nat):Option Dc:=match k with
 |0=>aZ x s
 |1=>(x.outs++x.vars).find? fun d=>d.nm.data.toList==s.data.toList
 |2=>x.vars.find? fun d=>d.nm.data.toList==s.data.toList
 |_=>none
theorem aV8{x:Nd}{s:ByteArray}{k:Nat}{d:Dc}(hk:k<3)(h:(kP x k).find? (fun d=>d.nm.data.toList==s.data.toList)=some d):tT x s k=some d:=by
 match k,hk with
 |0,_=>
  have h:x.ins.find? (fun d=>d.nm.data.toList==s.data.toList)=some d:=h;show(x.ins++x.outs++x.vars).find? _=_;rw[Yw,List.find?_append,h];rfl
 |1,_=>
  have h:x.outs.find? (fun d=>d.nm.data.toList==s.data.toList)=some d:=h;show(x.outs++x.vars).find? _=_;rw[List.find?_append,h];rfl
 |2,_=>exact h
theorem aUa{x:Nd}{s:ByteArray}{k:Nat}(hk:k<3)(h:(kP x k).find? (fun d=>d.nm.data.toList==s.data.toList)=none):tT x s k=tT x s (k+1):=by
 match k,hk with
 |0,_=>
  have h:x.ins.find? (fun d=>d.nm.data.toList==s.data.toList)=none:=h;show(x.ins++x.outs++x.vars).find? _=(x.outs++x.vars).find? _;rw[Yw,List.find?_append,h];rfl
 |1,_=>
  have h:x.outs.find? (fun d=>d.nm.data.toList==s.data.toList)=none:=h;show(x.outs++x.vars).find? _=x.vars.find? _;rw[List.find?_append,h];rfl
 |2,_=>exact h
def vO(x:Nd)(A1:Option Addr)(c1:Nat)(A2:Option Addr)(c2:Nat)(A3:Option Addr)(c3:Nat):Array Value:=#[.slice A1 x.ins.length c1,.slice A2 x.outs.length c2,.slice A3 x.vars.length c3]
theorem aJc{x:Nd}{A1:Option Addr}{c1:Nat}{A2:Option Addr}{c2:Nat}{A3:Option Addr}{c3:Nat}{A4:Option Addr}{w:World}(h:cF w x A1 A2 A3 A4){k:Nat}(hk:k<3):
 ∃A c,(vO x A1 c1 A2 c2 A3 c3)[k]?=some (.slice A (kP x k).length c)/\bZ w A (kP x k).length (kP x k):=by
 match k,hk with
 |0,_=>exact⟨A1,c1,rfl,h.1⟩
 |1,_=>exact⟨A2,c2,rfl,h.2.1⟩
 |2,_=>exact⟨A3,c3,rfl,h.2.2.1⟩
theorem aLn(x:Nd)(A1:Option Addr)(c1:Nat)(A2:Option Addr)(c2:Nat)(A3:Option Addr)(c3:Nat)(A4:Option Addr)(c4:Nat)(s:ByteArray)(w:World)(h:cF w x A1 A2 A3 A4):
 Calls Tryz.prog 61 #[.agg (bK x A1 c1 A2 c2 A3 c3 A4 c4),.string s] w (nL w (aZ x s)):=by
 have HF:=Hd fun w1 hw=>iE w x A1 c1 A2 c2 A3 c3 A4 c4 w1 hw h;have Dv:=Hd mG;have H0:=Hd (show tT x s 0=aZ x s from rfl);have Oa:=Hd (show tT x s 3=none from rfl);have Nu:=Hd fun(k:Nat) hk d h=>aV8 (x:=x) (s:=s) (k:=k) (d:=d) hk h;have Nv:=Hd fun(k:Nat) hk h=>aUa (x:=x) (s:=s) (k:=k) hk h;have Og:=Hd fun(w:World)(h:cF w x A1 A2 A3 A4)(k:Nat) hk=>aJc (c1:=c1) (c2:=c2) (c3:=c3) h (k:=k) hk;unfold bK;unfold vO at Og;generalize aZ x s=Au at *;generalize tT x s=rest at *;unfold aU at Dv;go_in
 go_upto_region 1 with(fail);generalize Ag:w.alloc _=w1;obtain⟨Aa,hg,Oh,hcell⟩:=HF.o w1 Ag;have Ac:=Hd Aa;have Ny:=Hd hcell;have Bi:=Hd Oh;have Dg:=Hd fun w2 (hw:w1.alloc (.cells (aU default) 43)=w2)=>(show gK w2 (w.heap.size+1) default/\Below w1.heap.size w1 w2/\w2.heap.size=w.heap.size+2 by
  subst hw;exact⟨by rw[<-hg];exact Zx _ _,(Yg _ _).alloc (Yh _) _,by simp[hg]⟩)
 clear Ag hcell Aa HF h Oh;generalize Br:w1.alloc _=w2;obtain⟨Gg,Ad,hg2⟩:=Dg.o w2 Br;have Gl:=Hd Gg;simp only [bK] at Ny;obtain⟨-,q1,q2,q3,-,-⟩:=Sx (Ny.o w2 Ad);simp only [Ya,Yb,Yc] at q1 q2 q3;have Dh:=Hd (Ac.o.tr Ad);have Ce:=Hd (Bi.o.below Ad);have Of:=Hd fun w3 (hw:w2.alloc (.cells #[.slice A1 x.ins.length c1,.slice A2 x.outs.length c2,.slice A3 x.vars.length c3] 32)=w3)=>(show Below w2.heap.size w2 w3/\w3.heap.size=w.heap.size+3/\∀ w',Below w3.heap.size w3 w'->∀ j,w'.cell? ⟨w.heap.size+2,j,none⟩=(#[.slice A1 x.ins.length c1,.slice A2 x.outs.length c2,.slice A3 x.vars.length c3]:Array Value)[j]? by
  subst hw;refine⟨(Yg _ _).alloc (Yh _) _,by simp[hg2],fun w' hb j=>?_⟩;rw[<-hg2,hb.cell (p:=⟨w2.heap.size,j,none⟩) aG,Zp])
 clear Br Gg Ad Dg Ny Bi;go_upto_region 2 with(fail);generalize Cr:w2.alloc _=w3;obtain⟨Ak,Ol,Bp⟩:=Of.o w3 Cr;have Gj:=Hd Bp;have Nt:=Hd (Gl.o.below Ak);have Eo:=Hd (Dh.o.tr Ak);have Oi:=Hd (Ce.o.below Ak);clear Cr Of Ak Bp q1 q2 q3 Gl Dh Ce;go_loopw [18] (fun i wr=>∃k:Nat,k<=3/\i=.int .i64 k/\rest k=Au/\Below w3.heap.size w3 wr) (fun i _=>3-(intOf i).toNat)
 case atStart=>exact⟨0,by omega,rfl,H0.o,Yg _ _⟩
 case round=>
  obtain⟨k,hk,rfl,Bc,Ba⟩:=hrel;have HT:=Hd Bc;have Cf:=Hd Ba;clear Bc;by_cases Ah:k<3
  . obtain⟨A,c,Od,Ap⟩:=Og.o wr (Oi.o.below Ba) k Ah;have e0:=Gj.o wr Ba k;rw[Od]at e0;have Ed:=Hd Ap;have Da:=aI.len Ap;have Om:=aI.max Ap;have Cs:=Hd (fun(j:Nat) hj hn hy=>Nu.o k Ah _ (aCj (l:=kP x k) (f:=fun d:Dc=>d.nm.data.toList==s.data.toList) (k:=j) hj hn hy));have Cj:=Hd (fun hn=>Nv.o k Ah (aIf (l:=kP x k) (f:=fun d:Dc=>d.nm.data.toList==s.data.toList) hn));clear Od Ap Ba;generalize kP x k=l at *;generalize l.length=n at *;go_upto_region 5 with(fail);generalize wr=wo at *;go_loopw [24] (fun i wr=>∃j:Nat,j<=n/\i=.int .i64 j/\(∀m,m<j->((l[m]?.getD default).nm.data.toList==s.data.toList)=false)/\Below wo.heap.size wo wr) (fun i _=>n-(intOf i).toNat)
    case atStart=>exact⟨0,by omega,rfl,fun j hj=>absurd hj aA,Yg _ _⟩
    case round=>
     obtain⟨j,hj,rfl,Bc,Nw⟩:=hrel;have Dx:=Hd Bc;have My:=Hd Nw;have Nz:=Hd (Cf.o.tr Nw);clear Bc;by_cases Kr:j<n
     . obtain⟨b,off,rfl,hb,hc⟩:=aI.at_ (bZ.below Ed.o Nw) aA;obtain⟨d0,d1,d2,d3,d4,d5⟩:=(hc j Kr).six;clear hc;have HH:=Hd (Cs.o j aA Dx.o);have HS:=Hd fun(hf:((l[j]?.getD default).nm.data.toList==s.data.toList)=false)=>dC (P:=fun m=>((l[m]?.getD default).nm.data.toList==s.data.toList)=false) Dx.o hf;generalize l[j]?.getD default=d at d0 d1 d2 d3 d4 d5 HH HS;have Oe:=Hd fun w4 hw=>Dv.o wr d w4 hw;clear Nw;go_upto_region 7 with(fail);generalize Oc:World.alloc _ _=w4;obtain⟨Bk,On,Bx⟩:=Oe.o _ Oc;obtain⟨r0,r1,r2,r3,r4,r5⟩:=Sx (Bx w4 (Yg _ _));simp only[Ya,Yb,Yc]at r0 r1 r2 r3 r4 r5;have Aq:=Hd (Nt.o.below (Nz.o.tr Bk));have Ev:=Hd (Eo.o.trans ((Nz.o.tr Bk).mono Eo.o.size));have Ob:=Hd (My.o.tr Bk);clear d0 d1 d2 d3 d4 d5 Bk Bx Oc Oe;cases h1:(d.nm.toList==s.toList)with
       |true=>
        have Ok:=Hd (HH.o wE);have Jx:=Hd (Aq.o.set d);have Nx:=Hd (Xc Ev.o (g:=w.heap.size+1) aA (aU d));unfold aU at Jx Nx;have HO:=Hd (show some d=Au from Ok.o.symm.trans HT.o);go_wp2_with (refine Zv rfl _ _ _ rfl (w.heap.size+1) _ rfl rfl _ _ Aq.o oU rfl aQ ?_);exact Zu (yR (p:=4) (u:=5) rfl _ _ (w.heap.size+1) rfl Jx.o) rfl ⟨by rw[<-HO.o];rfl,Nx.o⟩
       |false=>
        have Fu:=Hd (HS.o wE);go_wp2_with fail;go_roundw;case rel=>exact⟨j+1,by omega,by go_num,Fu.o,Ob.o⟩
        case measure=>simp[intOf];omega
     . have Kz:j=n:=by omega
       have HN:=Hd (show rest (k+1)=Au from(Cj.o fun m hm=>Dx.o m aA).symm.trans HT.o);go_wp2_with fail;go_roundw;case rel=>exact⟨k+1,by omega,by go_num,HN.o,Nz.o⟩
       case measure=>simp[intOf];omega
  . have Oj:k=3:=by omega
    subst Oj;have HO:=Hd (show none=Au from Oa.o.symm.trans HT.o);have Aq:=Hd (Nt.o.below Ba);have Ev:=Hd (Eo.o.tr Ba);have Jx:=Hd (Aq.o.set default);have Nx:=Hd (Xc Ev.o (g:=w.heap.size+1) aA (aU default));go_wp2_with (refine Zv rfl _ _ _ rfl (w.heap.size+1) _ rfl rfl _ _ Aq.o oU rfl aQ ?_);exact Zu (yR (d:=default) (p:=4) (u:=5) rfl _ _ (w.heap.size+1) rfl Jx.o) rfl ⟨by rw[<-HO.o];rfl,Nx.o⟩
end
section
open Go.Shelf Go.RowKit Go.Lib Go.Sort
def aZk:Go.Shelf.Ren:=⟨fun|35=>62|n=>n,fun|22=>32|23=>43|3=>3|4=>4|0=>0|n=>n,fun|n=>n⟩
theorem aR3:Go.Proofs.SlLaysE0.n35 Tryz.prog aZk:={
 mixed:=by kernel_rfl
 f35:=⟨Tryz.f62.name,by decide,Tryz.func62.trans (congrArg some aC)⟩
 t0:=Tryz.underlying0
 a0:=Tryz.isAgg0
 z0:=Tryz.sizeOf0
 v0:=Tryz.zeroValue0
 t3:=Tryz.underlying3
 a3:=Tryz.isAgg3
 z3:=Tryz.sizeOf3
 v3:=Tryz.zeroValue3
 t4:=Tryz.underlying4
 a4:=Tryz.isAgg4
 z4:=Tryz.sizeOf4
 v4:=Tryz.zeroValue4
 t22:=Tryz.underlying32
 a22:=Tryz.isAgg32
 z22:=Tryz.sizeOf32
 v22:=Tryz.zeroValue32 }
def aIh:Go.Shelf.Ren:=⟨fun|4=>108|n=>n,fun|22=>32|25=>43|3=>3|4=>4|9=>9|20=>20|0=>0|n=>n,fun|n=>n⟩
theorem aO0:Go.Proofs.Lays8.n4 Tryz.prog aIh:={
 mixed:=by kernel_rfl
 f4:=⟨Tryz.f108.name,by decide,Tryz.func108.trans (congrArg some aC)⟩
 t0:=Tryz.underlying0
 a0:=Tryz.isAgg0
 z0:=Tryz.sizeOf0
 v0:=Tryz.zeroValue0
 t3:=Tryz.underlying3
 a3:=Tryz.isAgg3
 z3:=Tryz.sizeOf3
 v3:=Tryz.zeroValue3
 t4:=Tryz.underlying4
 a4:=Tryz.isAgg4
 z4:=Tryz.sizeOf4
 v4:=Tryz.zeroValue4
 t9:=Tryz.underlying9
 a9:=Tryz.isAgg9
 z9:=Tryz.sizeOf9
 v9:=Tryz.zeroValue9
 t20:=Tryz.underlying20
 a20:=Tryz.isAgg20
 z20:=Tryz.sizeOf20
 v20:=Tryz.zeroValue20
 t22:=Tryz.underlying32
 a22:=Tryz.isAgg32
 z22:=Tryz.sizeOf32
 v22:=Tryz.zeroValue32 }
theorem yS(d:Dc):(fZ d).length=6:=rfl
theorem aZl(d:Dc):∀v∈fZ d,v.oneCell'=true:=by
 intro v hv;simp only[fZ,Yu,List.not_mem_nil,or_false]at hv;rcases hv with rfl|rfl|rfl|rfl|rfl|rfl<;>rfl
theorem aV9{w:World}{g cap n:Nat}{cur:Array Value}{l:List Dc}(hh:w.heap[g]?=some (.cells cur 43 (0,0)))(Da:l.length=n)(Bp:n<=cap)(hcs:cur.size=cap*6)(ht:cur.toList.take (n*6)=dV l):
 HoldsK fZ 6 w g 0 l.toArray:=by
 intro j hj;rw[size_flatK]at hj;have Aq:j<n*6:=by rw[<-Da];simpa using hj
 refine⟨?_,?_⟩
 . rw[get_flatK _ _ _ _ hj];unfold World.cell?;simp only[Nat.zero_add];rw[hh];have h1:cur.toList[j]?=(dV l)[j]?:=by rw[<-ht,List.getElem?_take_of_lt Aq]
   have h2:=zH l (j / 6) (j % 6) aA (Nat.mod_lt _ aA);rw[show j / 6*6+j % 6=j by omega]at h2;have h3:j / 6<l.length:=aA;show cur[j]?=_;rw[<-Array.getElem?_toList,h1,h2,Yk h3];rw[getElem!_pos l.toArray (j / 6) (by simpa using h3)];simp only[Yt,List.getElem_toArray];rw[Yk (by rw[yS];omega)];show some _=some (id _);rw[getElem!_pos (fZ l[j / 6]) (j % 6) (by rw[yS];omega)];rfl
 . unfold World.frozen?;simp only[Nat.zero_add];rw[hh];simp
theorem bFw(base n:Nat)(v:Value)(l:List Dc)(w:World)(h:w.ownsRow base 43 6 v n (dV l))(hn:n<=9223372036854775807):
 Calls Tryz.prog 62 #[v] w fun e w'=>e=.returned (.tuple #[])/\Below base w w'/\∃A c,v=.slice A n c/\bZ w' A n l.reverse:=by
 have Da:l.length=n:=by
  have:=h.1
  rw[rL]at this;omega
 rcases h.2 with⟨rfl,rfl⟩|⟨g,cap,cur,rfl,hg,hh,hnc,hcm,hcs,ht⟩
 . refine(AnyQ.slices_Reverse_empty aR3 none 0 w).mono ?_;rintro e w' ⟨rfl,rfl⟩;obtain rfl:l=[]:=Zr Da;exact⟨rfl,Yg _ _,none,0,rfl,aI.nil_ _ _ _⟩
 . have hH:=aV9 hh Da hnc hcs ht;have Al:l.toArray.size=n:=by simpa using Da
   have hC:=AnyQ.slices_Reverse aR3 6 Tryz.isAgg43 Tryz.sizeOf43 fZ yS aZl g 0 cap l.toArray w hH (by rw[Al];exact hn);rw[Al]at hC;refine hC.mono ?_;rintro e w' ⟨rfl,m,rfl⟩;have Bp:=holdsK_putRowK fZ 6 (Sort.ahead w m) g 0 l.toArray l.toArray.reverse (holdsK_ahead fZ 6 w m g 0 l.toArray hH) aG;have Aq:g<w.heap.size:=(Yl.1 hh).1;refine⟨rfl,⟨rfl,rfl,rfl,by simp[putRowK],fun k hk=>?_⟩,some ⟨g,0,none⟩,cap,rfl,by simpa using Da,hn,fun hp=>⟨g,0,rfl,by simpa[putRowK]using Aq,fun i hi=>?_⟩⟩
   . show(putRow id (Sort.ahead w m) g 0 _).heap[k]?=_;unfold putRow mapBlock;show(w.heap.modify g _)[k]?=_;rw[Array.getElem?_modify,if_neg aA]
   . intro j u hu;have hr:l.reverse[i]?.getD default=l.toArray.reverse[i]!:=by
      rw[getElem!_pos l.toArray.reverse i dA,Yk dA];simp
     rw[hr]at hu
     have:=HoldsK.cells Bp yS (i:=i) dA j u hu
     simpa[Addr.add_lit]using this
theorem bCx(n:Nat)(w:World)(hn:n<=1000000):
 Calls Tryz.prog 108 #[.slice none 0 0,.int .i64 n] w fun e w'=>∃v,e=.returned v/\w'.ownsRow w.heap.size 43 6 v 0 (dV [])/\Below w.heap.size w w':=by
 obtain⟨i0,z0,hi,Aq,Bx,Cu,Bp⟩:=kG uY;rcases Nat.eq_zero_or_pos n with rfl|hp
 . refine(Any8.slices_Grow_room aO0 none 0 0 0 w (Yh _) aA aA aA).mono ?_;rintro e w' ⟨rfl,rfl⟩;exact⟨_,rfl,⟨rfl,.inl ⟨rfl,rfl⟩⟩,Yg _ _⟩
 . refine(Any8.slices_Grow_grow aO0 i0 z0 hi Aq aA none 0 0 n [] w (Yh _) aA (by rw[Cu];omega) aA aG (fun _=>rfl) (fun a h=>by cases h)).mono ?_;rintro e w' ⟨rfl,rfl⟩;refine⟨_,rfl,⟨rfl,.inr ⟨w.heap.size,_,_,rfl,Yh _,Zx _ _,Yq _,?_,?_,?_⟩⟩,?_⟩;· exact grownCap_le_maxLen _ _ _ _ dP
   . have:=grownCap_ge w (0+n) 0 43
     show(_:Array Value).size=grownCap w (0+n) 0 43*6;simp only[Array.size_append,size_zeroCells,Bp,List.size_toArray,Zd];rw[show aIh.t 25=43 from rfl];omega
   . rfl
   . exact(Yg _ _).drew.alloc (Yh _) _
end
section
open Go.RowKit Go.Sort
def aR4:Value->Nat
 |.slice _ n _=>n
 |_=>0
theorem sS{w w':World}{base:Nat}{e:TypeId}{size n:Nat}{v:Value}{xs:List Value}(h:w.ownsRow base e size v n xs)(hb:Below w.heap.size w w'):w'.ownsRow base e size v n xs:=by
 exact aD7
theorem bFx(w:World)(d:Dc):bZ (w.alloc (.cells (aU d) 43)) (some ⟨w.heap.size,0,none⟩) 1 [d]:=by
 refine⟨rfl,by omega,fun _=>⟨w.heap.size,0,rfl,by simp,fun i hi=>?_⟩⟩;obtain rfl:i=0:=by omega
 intro j v hv;rw[show 0+0*6+j=j by omega,Zp]
 have:(fZ d)[j]?=some v:=by simpa using hv
 rw[<-this];show(fZ d).toArray[j]?=_;simp
theorem bCy(x:Nd)(A1:Option Addr)(c1:Nat)(A2:Option Addr)(c2:Nat)(A3:Option Addr)(c3:Nat)(A4:Option Addr)(c4:Nat)(s:ByteArray)(w:World)(h:cF w x A1 A2 A3 A4):
 Calls Tryz.prog 39 #[.agg (bK x A1 c1 A2 c2 A3 c3 A4 c4),.string s] w (xP w (jY x s)):=by
 have HF:=Hd fun w1 hw=>iE w x A1 c1 A2 c2 A3 c3 A4 c4 w1 hw h;have Dv:=Hd fun t w1 (hw:cF w1 x A1 A2 A3 A4)=>aLn x A1 c1 A2 c2 A3 c3 A4 c4 t w1 hw;obtain⟨i0,z0,hi,Oq,Ol,Cu,Ok⟩:=kG uY;have Ny:=Hd (show iS x 13 s []=jY x s from rfl);unfold bK at Dv⊢;generalize jY x s=Au at *;go_in
 go_upto_region 1 with(fail);generalize Ag:w.alloc _=w1;obtain⟨Aa,hg,Oj,hcell⟩:=HF.o w1 Ag;have Ac:=Hd Aa;have HC:=Hd hcell;have Bi:=Hd Oj;have Nx:=Hd (show w1.ownsRow w1.heap.size 43 6 (.slice none 0 0) 0 (dV [])from⟨rfl,.inl ⟨rfl,rfl⟩⟩);simp only[bK]at HC;clear Ag hcell Aa HF h Oj;go_wp2_with fail;go_loopw [1,6] (fun nm v wr=>∃(k:Nat)(t:ByteArray)(row:List Dc),k<=12/\nm=.string t/\row.length=k/\wr.ownsRow w1.heap.size 43 6 v k (dV row)/\iS x (13-k) t row.reverse=Au/\Below w1.heap.size w1 wr) (fun _ v _=>13-aR4 v)
 case atStart=>exact⟨0,s,[],by omega,rfl,rfl,Nx.o,Ny.o,Yg _ _⟩
 case round=>
  obtain⟨k,t,row,hk,rfl,Of,Bq,Oi,Ba⟩:=hrel;obtain⟨A0,c0,rfl,-⟩:=bZ.of_own Bq aA;have Cf:=Hd Ba;have Bz:=Hd Oi;have Nw:=Hd Of;have Fy:=Hd Bq;have hz:=Ba.size;rw[hg]at hz;obtain⟨q0,q1,q2,q3,q4,-⟩:=Sx (HC.o wr Ba);simp only[Ya,Yb,Yc]at q0 q1 q2 q3 q4;have HD:=Hd (Dv.o t wr (Bi.o.below Ba));rw[show 13-k=(12-k)+1 by omega,aGl]at Bz;clear Oi Ba Of Bq;cases hd:aZ x t with
  |none=>
   rw[hd]at HD Bz;have HO:=Hd (show none=Au from Bz.o);go_wp2_with fail;refine HD.o.mono ?_;rintro e w2 ⟨rfl,Ad⟩;have Bp:=Hd (show gK (w2.alloc (.cells (aU default) 43)) w2.heap.size default from Zx _ _);have Aj:=Hd (Cf.o.tr Ad);have Ax:=Hd (Xc ((Aj.o).alloc Aj.o.size (.cells (aU default) 43)) (g:=w2.heap.size) Aj.o.size (aU default));unfold kY aU;unfold aU at Bp Ax;simp only[Option.getD_none,Option.isSome_none];clear q0 q1 q2 q3 q4;go_upto_region 3 with(refine Zv rfl _ _ _ rfl w2.heap.size _ rfl rfl _ _ Bp.o oU rfl aQ ?_);exact aNb
  |some d=>
   rw[hd]at HD Bz;have Bz:=Hd (show(if eI d.on then some row.reverse else iS x (12-k) d.on (d::row.reverse))=Au from Bz.o);go_wp2_with fail;refine HD.o.mono ?_;rintro e w2 ⟨rfl,Ad⟩;have Bp:=Hd (show gK (w2.alloc (.cells (aU default) 43)) w2.heap.size default from Zx _ _);have Aj:=Hd (Cf.o.tr Ad);have Oc:=Xc ((Aj.o).alloc Aj.o.size (.cells (aU default) 43)) (g:=w2.heap.size) Aj.o.size (aU d);have Bx:=Bp.o.set d;have Oe:=Xc ((Yg w2.heap.size w2).alloc (Yh _) (.cells (aU default) 43)) (g:=w2.heap.size) (Yh _) (aU d);have Om:=Hd Ad.size;have Oh:=Ad.tr Oe;have Fe:=Hd fun w4 (hw:(w2.alloc (.cells (aU default) 43)).setRow w2.heap.size (aU d)=w4)=>(show gK w4 w2.heap.size d/\Below w1.heap.size w1 w4/\Below wr.heap.size wr w4 by subst hw;exact⟨Bx,Oc,Oh⟩);unfold kY aU;unfold aU at Bp;simp only[Yt,Option.isSome_some];clear q0 q1 q2 q3 q4 Oc Bx Oe Oh Ad;go_upto_region 3 with(refine Zv rfl _ _ _ rfl w2.heap.size _ rfl rfl _ _ Bp.o oU rfl aQ ?_);generalize Ob:World.setRow _ _ _=w4;obtain⟨Bx,Od,Jx⟩:=Fe.o w4 Ob;have Be:=Hd Od;have Gk:=Hd (sS Fy.o Jx);have Nv:=Hd (show wr.heap.size<=w2.heap.size/\w2.heap.size<w4.heap.size from⟨Om.o,(Yl.1 Bx).1⟩);generalize w2.heap.size=gb at *;obtain⟨r0,r1,r2,r3,r4,r5⟩:=Sx Bx.cells;simp only[aU,List.getElem?_toArray,Yz,Zb]at r0 r1 r2 r3 r4 r5;clear Ob Fe Bx Od Jx Bp;cases h1:(d.on.toList==[])with
   |true=>
    have HO:=Hd (show some row.reverse=Au by have h:=Bz.o;rwa[show eI d.on=true by rw[Zc]at h1;exact h1,if_pos rfl]at h);have Oo:=Hd (bFw w1.heap.size k _ row w4 Gk.o aA);go_wp2_with fail;refine Oo.o.mono ?_;rintro e w5 ⟨rfl,Bv,A,c,he,Ap⟩;injection he with hA _ hc;subst hA;subst hc;have Ed:=Hd Ap;have Ck:=Hd (Be.o.trans Bv);clear Ap Bv;go_wp2_with fail;refine Zu (results_tmp2 rfl _ _ _) rfl ?_;refine⟨Ac.o.trans (Ck.o.mono aA),?_⟩;rw[<-HO.o];exact⟨A0,c0,by rw[List.length_reverse,Nw.o];rfl,by rw[List.length_reverse,Nw.o];exact Ed.o⟩
   |false=>
    have HO:=Hd (show iS x (12-k) d.on (d::row.reverse)=Au by have h:=Bz.o;rwa[show eI d.on=false by rw[Zc]at h1;exact h1,if_neg aG]at h);by_cases Fo:k=12
    . have HO:=Hd (show none=Au by have h:=HO.o;rwa[show 12-k=0 by omega]at h);have Ot:((k:Int)==12)=true:=by rw[beq_iff_eq];omega
      clear Fo;go_wp2_with fail;refine Zu (results_tmp2 rfl _ _ _) rfl ?_;refine⟨Ac.o.trans (Be.o.mono aA),?_⟩;rw[<-HO.o];rfl
    . have HK:=Hd (show k<12 by omega);have Ot:((k:Int)==12)=false:=mV;have HO:=Hd (show iS x (13-(k+1)) d.on (row++[d]).reverse=Au by have h:=HO.o;rwa[List.reverse_append,show 13-(k+1)=12-k by omega]);have Nu:=Hd (bFx w4 d);have Ch:=Hd ((Yg w4.heap.size w4).alloc (Yh _) (.cells (aU d) 43));have Aq:=Hd (sS Gk.o Ch.o);have Ck:=Hd (Be.o.tr Ch.o);have H4:=Hd ((Ch.o.cell (p:=⟨gb,4,none⟩) Nv.o.2).trans r4);have Nt:=Hd (show gb<(w4.alloc (.cells (aU d) 43)).heap.size by rw[World.size_alloc];exact Nat.lt_succ_of_lt Nv.o.2)
      have On:=Hd (show(some gb:Option Nat)≠(Value.slice A0 k c0).ownBlock from fun e=>by
       have h1:=(Fy.o.lt gb e.symm).2;have h2:=Nv.o.1
       omega)
      unfold aU at Nu Ch Aq Ck H4 Nt;clear Fo;go_wp2_with (at_builtin;refine aBa rfl _ _ 32 rfl w1.heap.size 43 i0 z0 72 Tryz.underlying32 hi Oq Ol Cu Ok _ k row rfl Aq.o _ 1 1 [d] rfl Nu.o dP aA Ck.o.size ?_;intro v' w5 Bb Ar;have Og:=Ck.o.grown Ar Ck.o.size (fun j hj=>(Aq.o.lt j hj).1);have Nz:=Hd Bb;have Du:=Hd Og;have s4:=(Ym (a:=⟨gb,4,none⟩) (Ar.block gb (Nt.o) (On.o))).trans H4.o;clear Bb Ar Og);have Oa:=Nz.o;obtain⟨A9,c9,e9,-⟩:=bZ.of_own Oa aA;subst e9;have Nz:=Hd Oa;clear Oa;go_wp2_with fail;go_roundw;case rel=>exact⟨k+1,d.on,row++[d],(by have:=HK.o;omega),rfl,by rw[Yn,Nw.o];rfl,Nz.o,HO.o,Du.o⟩
      case measure=>have:=HK.o;simp only[aR4];omega
theorem sT{α:Type}(f:α->Bool):∀(l:List α),decide ((0:Int)<=bR f l 0)=l.any f:=by
 have Aq:∀(l:List α)(i:Nat),decide ((0:Int)<=bR f l i)=l.any f:=by
  intro l;induction l with
  |nil=>intro i;simp[bR]
  |cons a l ih=>
   intro i;rw[bR];cases ha:f a with
   |true=>simp[ha]
   |false=>simp only[List.any_cons,ha,Bool.false_or];rw[if_neg aG];exact ih (i+1)
 exact fun l=>Aq l 0
theorem aBj{f:ByteArray->Bool}:∀{l:List ByteArray}{k i:Nat},k<l.length->(∀j,j<k->f (l[j]?.getD ByteArray.empty)=false)->f (l[k]?.getD ByteArray.empty)=true->bR f l i=((i+k:Nat):Int)
 |[],k,i,h,_,_=>by simp at h
 |a::l,0,i,_,_,h=>by
  have h:f a=true:=iI;simp[bR,h]
 |a::l,k+1,i,hk,hn,h=>by
  have h0:f a=false:=aE7;rw[bR,h0,if_neg aG,aBj (k:=k) kT (fun j hj=>by simpa using hn (j+1) aA) iI];congr 1;omega
theorem aBe{f:ByteArray->Bool}:∀{l:List ByteArray}{i:Nat},(∀j,j<l.length->f (l[j]?.getD ByteArray.empty)=false)->bR f l i=-1
 |[],i,_=>rfl
 |a::l,i,hn=>by
  have h0:f a=false:=by simpa using hn 0 aG
  rw[bR,h0,if_neg aG];exact aBe fun j hj=>by simpa using hn (j+1) (by simpa using hj)
theorem aEv{w:World}{A:Option Addr}{n i:Nat}{l:List Nd}(h:eX w A n l)(hi:i<n):
 ∃b off A1 c1 A2 c2 A3 c3 A4 c4,A=some ⟨b,off,none⟩/\b<w.heap.size/\cF w (l[i]?.getD default) A1 A2 A3 A4/\
 w.cell? ⟨b,off+i*5,none⟩=some (.string (l[i]?.getD default).nm)/\w.cell? ⟨b,off+i*5+1,none⟩=some (.slice A1 (l[i]?.getD default).ins.length c1)/\w.cell? ⟨b,off+i*5+2,none⟩=some (.slice A2 (l[i]?.getD default).outs.length c2)/\w.cell? ⟨b,off+i*5+3,none⟩=some (.slice A3 (l[i]?.getD default).vars.length c3)/\w.cell? ⟨b,off+i*5+4,none⟩=some (.slice A4 (l[i]?.getD default).eqs.length c4):=by
 obtain⟨b,off,e,hb,hc⟩:=aI.at_ h aA;obtain⟨A1,c1,A2,c2,A3,c3,A4,c4,h1,h2⟩:=hc i hi;obtain⟨d0,d1,d2,d3,d4⟩:=uX h1;exact⟨b,off,A1,c1,A2,c2,A3,c3,A4,c4,e,hb,h2,d0,d1,d2,d3,d4⟩
theorem aEw{w:World}{A:Option Addr}{n i:Nat}{l:List Qn}(h:gN w A n l)(hi:i<n):
 ∃b off,∃B c A' ca B' cb,A=some ⟨b,off,none⟩/\b<w.heap.size/\(aP w B (l[i]?.getD default).ns.length (l[i]?.getD default).ns/\aH w (l[i]?.getD default).x A' B')/\
  w.cell? ⟨b,off+i*7,none⟩=some (.slice B (l[i]?.getD default).ns.length c)/\w.cell? ⟨b,off+i*7+1,none⟩=some (.int .i64 (l[i]?.getD default).x.k)/\w.cell? ⟨b,off+i*7+2,none⟩=some (.int .i64 (l[i]?.getD default).x.n)/\
  w.cell? ⟨b,off+i*7+3,none⟩=some (.string (l[i]?.getD default).x.s)/\w.cell? ⟨b,off+i*7+4,none⟩=some (.int .i64 (l[i]?.getD default).x.op)/\w.cell? ⟨b,off+i*7+5,none⟩=some (.slice A' (l[i]?.getD default).x.arms.length ca)/\w.cell? ⟨b,off+i*7+6,none⟩=some (.slice B' (l[i]?.getD default).x.subs.length cb):=by
 obtain⟨b,off,e,hb,hc⟩:=aI.at_ h aA;obtain⟨B,c,A',ca,B',cb,h0,h1,h2,h3⟩:=hc i hi;obtain⟨c0,c1,c2,c3,c4,c5⟩:=dT h2;exact⟨b,off,B,c,A',ca,B',cb,e,hb,⟨h1,h3⟩,h0,c0,c1,c2,c3,c4,c5⟩
theorem wB{w:World}{A:Option Addr}{n i:Nat}{l:List Dc}(h:bZ w A n l)(hi:i<n):
 ∃b off,A=some ⟨b,off,none⟩/\b<w.heap.size/\w.cell? ⟨b,off+i*6,none⟩=some (.string (l[i]?.getD default).nm)/\w.cell? ⟨b,off+i*6+1,none⟩=some (.int .i64 (l[i]?.getD default).k)/\w.cell? ⟨b,off+i*6+2,none⟩=some (.int .i64 (l[i]?.getD default).e)/\
  w.cell? ⟨b,off+i*6+3,none⟩=some (.int .i64 (l[i]?.getD default).l)/\w.cell? ⟨b,off+i*6+4,none⟩=some (.string (l[i]?.getD default).on)/\w.cell? ⟨b,off+i*6+5,none⟩=some (.string (l[i]?.getD default).ct):=by
 obtain⟨b,off,e,hb,hc⟩:=aI.at_ h aA;exact⟨b,off,e,hb,(hc i hi).six⟩
def rS(g:Nat)(lb:Array Value)(f:Nd->Bool)(l:List Nd)(w:World):Prop:=
 ∀x,x∈l->∀(A1:Option Addr)(c1:Nat)(A2:Option Addr)(c2:Nat)(A3:Option Addr)(c3:Nat)(A4:Option Addr)(c4:Nat)(W:World),Below w.heap.size w W->cF W x A1 A2 A3 A4->
  Calls Tryz.prog g (#[.agg (bK x A1 c1 A2 c2 A3 c3 A4 c4)]++lb) W fun e w'=>e=.returned (.bool (f x))/\Below W.heap.size W w'
theorem aIi(g:Nat)(lb:Array Value)(eg:∀args w,(callFunc g args).run Tryz.prog w=.ok (.enter g args) w)(f:Nd->Bool)(A:Option Addr)(n c:Nat)(l:List Nd)(w:World)(h:eX w A n l)(hf:rS g lb f l w):
 Calls Tryz.prog 93 #[.slice A n c,.func (.func g) #[] lb] w fun e w'=>e=.returned (.int .i64 (bR f l 0))/\Below w.heap.size w w':=by
 have HR:=Hd h;have HP:=Hd hf;have Da:=aI.len h;have Aq:=aI.max h;have Cs:=Hd (fun(k:Nat) hk hn hy=>show bR f l 0=(k:Int)by have:=oJ (l:=l) (f:=f) (k:=k) (i:=0) hk hn hy;rwa[Nat.zero_add]at this);have Cj:=Hd (fun hn=>show bR f l 0=-1 from oH (l:=l) (f:=f) (i:=0) hn);generalize bR f l 0=Au at *;have Fa:=Hd Da;clear h hf Da;unfold rS at HP;go_in
 go_wp2_with fail;go_loopw [5,8] (fun _ i wr=>∃k:Nat,k<=n/\i=.int .i64 k/\(∀j,j<k->f (l[j]?.getD default)=false)/\Below w.heap.size w wr) (fun _ i _=>n-(intOf i).toNat)
 case atStart=>exact⟨0,Yq _,rfl,fun j hj=>absurd hj aA,Yg _ _⟩
 case round=>
  obtain⟨k,hk,rfl,Bc,Ba⟩:=hrel;have HT:=Hd Bc;have Cf:=Hd Ba;clear Bc;by_cases Ah:k<n
  . obtain⟨b,off,A1,c1,A2,c2,A3,c3,A4,c4,rfl,hb,Ap,d0,d1,d2,d3,d4⟩:=aEv (HR.o.below Ba) Ah;have Bz:=Hd (HP.o _ (nH mC) A1 c1 A2 c2 A3 c3 A4 c4 wr Ba Ap);have HH:=Hd (Cs.o k mC HT.o);have HS:=Hd fun(hf:f (l[k]?.getD default)=false)=>dC (P:=fun j=>f (l[j]?.getD default)=false) HT.o hf;clear Ba  Ap;unfold bK at Bz;generalize l[k]?.getD default=x at d0 d1 d2 d3 d4 Bz HH HS;exact aQw
  . exact aM1
theorem bCz(g:Nat)(lb:Array Value)(eg:∀args w,(callFunc g args).run Tryz.prog w=.ok (.enter g args) w)(f:Nd->Bool)(A:Option Addr)(n c:Nat)(l:List Nd)(w:World)(h:eX w A n l)(hf:rS g lb f l w):
 Calls Tryz.prog 65 #[.slice A n c,.func (.func g) #[] lb] w fun e w'=>e=.returned (.bool (l.any f))/\Below w.heap.size w w':=by
 have HI:=Hd (aIi g lb eg f A n c l w h hf);have HA:=Hd (sT f l);clear h hf;go_in
 go_wp2_with fail;refine HI.o.mono ?_;rintro e w2 ⟨rfl,Ad⟩;have Aj:=Hd Ad;clear Ad;cases ha:l.any f with
 |true=>
  exact tQ
 |false=>
  exact tP
def vP(g:Nat)(lb:Array Value)(f:Dc->Bool)(l:List Dc)(w:World):Prop:=
 ∀x,x∈l->∀(W:World),Below w.heap.size w W->
  Calls Tryz.prog g (#[.agg (aU x)]++lb) W fun e w'=>e=.returned (.bool (f x))/\Below W.heap.size W w'
theorem aWa(g:Nat)(lb:Array Value)(eg:∀args w,(callFunc g args).run Tryz.prog w=.ok (.enter g args) w)(f:Dc->Bool)(A:Option Addr)(n c:Nat)(l:List Dc)(w:World)(h:bZ w A n l)(hf:vP g lb f l w):
 Calls Tryz.prog 30 #[.slice A n c,.func (.func g) #[] lb] w fun e w'=>e=.returned (.int .i64 (bR f l 0))/\Below w.heap.size w w':=by
 have HR:=Hd h;have HP:=Hd hf;have Da:=aI.len h;have Aq:=aI.max h;have Cs:=Hd (fun(k:Nat) hk hn hy=>show bR f l 0=(k:Int)by have:=oJ (l:=l) (f:=f) (k:=k) (i:=0) hk hn hy;rwa[Nat.zero_add]at this);have Cj:=Hd (fun hn=>show bR f l 0=-1 from oH (l:=l) (f:=f) (i:=0) hn);generalize bR f l 0=Au at *;have Fa:=Hd Da;clear h hf Da;unfold vP at HP;go_in
 go_wp2_with fail;go_loopw [5,8] (fun _ i wr=>∃k:Nat,k<=n/\i=.int .i64 k/\(∀j,j<k->f (l[j]?.getD default)=false)/\Below w.heap.size w wr) (fun _ i _=>n-(intOf i).toNat)
 case atStart=>exact⟨0,Yq _,rfl,fun j hj=>absurd hj aA,Yg _ _⟩
 case round=>
  exact aP8
theorem aC9(g:Nat)(lb:Array Value)(eg:∀args w,(callFunc g args).run Tryz.prog w=.ok (.enter g args) w)(f:Dc->Bool)(A:Option Addr)(n c:Nat)(l:List Dc)(w:World)(h:bZ w A n l)(hf:vP g lb f l w):
 Calls Tryz.prog 16 #[.slice A n c,.func (.func g) #[] lb] w fun e w'=>e=.returned (.bool (l.any f))/\Below w.heap.size w w':=by
 have HI:=Hd (aWa g lb eg f A n c l w h hf);have HA:=Hd (sT f l);clear h hf;go_in
 go_wp2_with fail;refine HI.o.mono ?_;rintro e w2 ⟨rfl,Ad⟩;have Aj:=Hd Ad;clear Ad;cases ha:l.any f with
 |true=>
  exact tQ
 |false=>
  exact tP
def zJ(g:Nat)(lb:Array Value)(f:Qn->Bool)(l:List Qn)(w:World):Prop:=
 ∀x,x∈l->∀(B:Option Addr)(c:Nat)(A:Option Addr)(ca:Nat)(D:Option Addr)(cb:Nat)(W:World),Below w.heap.size w W->aP W B x.ns.length x.ns/\aH W x.x A D->
  Calls Tryz.prog g (#[.agg (dW x B c A ca D cb)]++lb) W fun e w'=>e=.returned (.bool (f x))/\Below W.heap.size W w'
theorem aWb(g:Nat)(lb:Array Value)(eg:∀args w,(callFunc g args).run Tryz.prog w=.ok (.enter g args) w)(f:Qn->Bool)(A:Option Addr)(n c:Nat)(l:List Qn)(w:World)(h:gN w A n l)(hf:zJ g lb f l w):
 Calls Tryz.prog 18 #[.slice A n c,.func (.func g) #[] lb] w fun e w'=>e=.returned (.int .i64 (bR f l 0))/\Below w.heap.size w w':=by
 have HR:=Hd h;have HP:=Hd hf;have Da:=aI.len h;have Aq:=aI.max h;have Cs:=Hd (fun(k:Nat) hk hn hy=>show bR f l 0=(k:Int)by have:=oJ (l:=l) (f:=f) (k:=k) (i:=0) hk hn hy;rwa[Nat.zero_add]at this);have Cj:=Hd (fun hn=>show bR f l 0=-1 from oH (l:=l) (f:=f) (i:=0) hn);generalize bR f l 0=Au at *;have Fa:=Hd Da;clear h hf Da;unfold zJ at HP;go_in
 go_wp2_with fail;go_loopw [5,8] (fun _ i wr=>∃k:Nat,k<=n/\i=.int .i64 k/\(∀j,j<k->f (l[j]?.getD default)=false)/\Below w.heap.size w wr) (fun _ i _=>n-(intOf i).toNat)
 case atStart=>exact⟨0,Yq _,rfl,fun j hj=>absurd hj aA,Yg _ _⟩
 case round=>
  exact aP6
theorem bC0(g:Nat)(lb:Array Value)(eg:∀args w,(callFunc g args).run Tryz.prog w=.ok (.enter g args) w)(f:Qn->Bool)(A:Option Addr)(n c:Nat)(l:List Qn)(w:World)(h:gN w A n l)(hf:zJ g lb f l w):
 Calls Tryz.prog 103 #[.slice A n c,.func (.func g) #[] lb] w fun e w'=>e=.returned (.bool (l.any f))/\Below w.heap.size w w':=by
 have HI:=Hd (aWb g lb eg f A n c l w h hf);have HA:=Hd (sT f l);clear h hf;go_in
 go_wp2_with fail;refine HI.o.mono ?_;rintro e w2 ⟨rfl,Ad⟩;have Aj:=Hd Ad;clear Ad;cases ha:l.any f with
 |true=>
  exact tQ
 |false=>
  exact tP
def aEx(g:Nat)(lb:Array Value)(f:ByteArray->Bool)(l:List ByteArray)(w:World):Prop:=
 ∀x,x∈l->∀(W:World),Below w.heap.size w W->
  Calls Tryz.prog g (#[.string x]++lb) W fun e w'=>e=.returned (.bool (f x))/\Below W.heap.size W w'
theorem aZm(g:Nat)(lb:Array Value)(eg:∀args w,(callFunc g args).run Tryz.prog w=.ok (.enter g args) w)(f:ByteArray->Bool)(A:Option Addr)(n c:Nat)(l:List ByteArray)(w:World)(h:aP w A n l)(hf:aEx g lb f l w):
 Calls Tryz.prog 167 #[.slice A n c,.func (.func g) #[] lb] w fun e w'=>e=.returned (.int .i64 (bR f l 0))/\Below w.heap.size w w':=by
 have HR:=Hd h;have HP:=Hd hf;have Da:=aP.len h;have Aq:=aP.max h;have Cs:=Hd (fun(k:Nat) hk hn hy=>show bR f l 0=(k:Int)by have:=aBj (l:=l) (f:=f) (k:=k) (i:=0) hk hn hy;rwa[Nat.zero_add]at this);have Cj:=Hd (fun hn=>show bR f l 0=-1 from aBe (l:=l) (f:=f) (i:=0) hn);generalize bR f l 0=Au at *;have Fa:=Hd Da;clear h hf Da;unfold aEx at HP;go_in
 go_wp2_with fail;go_loopw [5,8] (fun _ i wr=>∃k:Nat,k<=n/\i=.int .i64 k/\(∀j,j<k->f (l[j]?.getD ByteArray.empty)=false)/\Below w.heap.size w wr) (fun _ i _=>n-(intOf i).toNat)
 case atStart=>exact⟨0,Yq _,rfl,fun j hj=>absurd hj aA,Yg _ _⟩
 case round=>
  exact aP7
theorem bFy(g:Nat)(lb:Array Value)(eg:∀args w,(callFunc g args).run Tryz.prog w=.ok (.enter g args) w)(f:ByteArray->Bool)(A:Option Addr)(n c:Nat)(l:List ByteArray)(w:World)(h:aP w A n l)(hf:aEx g lb f l w):
 Calls Tryz.prog 137 #[.slice A n c,.func (.func g) #[] lb] w fun e w'=>e=.returned (.bool (l.any f))/\Below w.heap.size w w':=by
 have HI:=Hd (aZm g lb eg f A n c l w h hf);have HA:=Hd (sT f l);clear h hf;go_in
 go_wp2_with fail;refine HI.o.mono ?_;rintro e w2 ⟨rfl,Ad⟩;have Aj:=Hd Ad;clear Ad;cases ha:l.any f with
 |true=>
  exact tQ
 |false=>
  exact tP
theorem bC1(A:Option Addr)(n c:Nat)(k e l:Int)(w:World)(hn:n<=9223372036854775807):
 Calls Tryz.prog 99 #[.slice A n c,aO k e l] w fun r w'=>r=.returned (.bool (bQ n k e l))/\Below w.heap.size w w':=by
 unfold aO;have HB:=Hd ((Yg w.heap.size w).alloc (Yh _) (.cells #[.int .i64 k,.int .i64 e,.int .i64 l] 41));by_cases h1:l<0
 . go_in
   go_wp2_with fail;go_ret;exact⟨aL (xO (.inl h1)).symm,HB.o⟩
 . by_cases h2:8<l
   . go_in
     go_wp2_with fail;go_ret;exact⟨aL (xO (.inr h2)).symm,HB.o⟩
   . have hl:0<=l/\l<=8:=by omega
     have HL:=Hd hl;clear hl;by_cases k1:k=1
     . have HE:=Hd (aBi (n:=n) (e:=e) HL.o (.inl k1));subst k1;exact aEb
     . by_cases k2:k=2
       . have HE:=Hd (aBi (n:=n) (e:=e) HL.o (.inr k2));subst k2;exact aEb
       . by_cases k3:k=3
         . have HE:=Hd (aG2 (n:=n) (e:=e) HL.o k3);exact aNc
         . have HE:=Hd (aG3 (n:=n) (e:=e) (l:=l) aA k3);have b1:(k==1)=false:=by simpa using k1
           have b2:(k==2)=false:=by simpa using k2
           have b3:(k==3)=false:=aAu;go_in
           go_wp2_with fail;go_ret;exact⟨aL HE.o.symm,HB.o⟩
theorem aWc{s:ByteArray}(h:eI s=true):bE s.data.toList=false:=by
 have h:s.data.toList=[]:=by simpa[eI]using h
 rw[h];rfl
def tJ(d:Dc):Bool:=if eI d.on then eI d.ct else bE d.on.data.toList && mZ d.ct
theorem aUb(n:Nat)(d:Dc):eW n bQ d=(bE d.nm.data.toList && bQ n d.k d.e d.l && tJ d):=by
 unfold eW tJ;cases h:eI d.on with
 |true=>rw[aWc h];simp
 |false=>simp
theorem bG7(s:ByteArray)(w:World)(hs:s.size<=9223372036854775807):
 Calls Tryz.prog 135 #[.string s] w fun e w'=>e=.returned (.bool (mZ s))/\Below w.heap.size w w':=by
 have HH:=Hd (vL s w hs);have HE:=Hd (show mZ s=(eU s.data.toList || (s.toList==[116,114,117,101]) || (s.toList==[102,97,108,115,101]))by rw[Zc];rfl);generalize mZ s=Au at *;generalize eU s.data.toList=b at *;cases b with
 |true=>
  exact aMw
 |false=>
  cases h1:(s.toList==[116,114,117,101])with
  |true=>
   rw[h1]at HE;exact aMw
  |false=>
   rw[h1]at HE;cases h2:(s.toList==[102,97,108,115,101])with
   |true=>
    exact aMr
   |false=>
    exact aMr
theorem bC2(d:Dc)(w:World)(ho:nF d):
 Calls Tryz.prog 100 #[.agg (aU d)] w fun e w'=>e=.returned (.bool (tJ d))/\Below w.heap.size w w':=by
 have HF:=Hd fun w1 hw=>mG w d w1 hw;have HL:=Hd fun w1=>jJ d.on w1 (by have:=ho.2.1;unfold maxLen at this;omega);have HA:=Hd fun w1=>bG7 d.ct w1 (by have:=ho.2.2;unfold maxLen at this;omega);have HE:=Hd (show tJ d=if(d.on.toList==[])then(d.ct.toList==[])else bE d.on.data.toList && mZ d.ct by rw[Zc,Zc];rfl);clear ho;unfold aU at HF⊢;generalize tJ d=Au at *;generalize bE d.on.data.toList=lb at *;generalize mZ d.ct=ab at *;go_in
 go_upto_region 1 with(fail);generalize Ag:w.alloc _=w1;obtain⟨Aa,hg,hcell⟩:=HF.o w1 Ag;have Ac:=Hd Aa;have HC:=Hd hcell;have q2:=hcell w1 (Yg _ _) 4;have q3:=hcell w1 (Yg _ _) 5;simp only[Ya,Yb,Yc]at q2 q3;clear Ag hcell Aa HF;cases h1:(d.on.toList==[])with
 |true=>
  rw[h1,if_pos rfl]at HE;generalize hc:(d.ct.toList==[])=cb at *;go_wp2_with fail;go_ret;exact⟨aL HE.o.symm,Ac.o⟩
 |false=>
  rw[h1,if_neg aG]at HE;cases lb with
  |false=>
   go_wp2_with fail;refine(HL.o w1).mono ?_;rintro e w2 ⟨rfl,Ad⟩;have Aj:=Hd (Ac.o.tr Ad);clear Ad q2 q3;go_wp2_with fail;go_ret;exact⟨aL HE.o.symm,Aj.o⟩
  |true=>
   go_wp2_with fail;refine(HL.o w1).mono ?_;rintro e w2 ⟨rfl,Ad⟩;have Aj:=Hd (Ac.o.tr Ad);have p3:=HC.o w2 Ad 5;simp only[Ya,Yb,Yc]at p3;clear Ad q2 q3;go_wp2_with fail;refine(HA.o w2).mono ?_;rintro e w3 ⟨rfl,Ak⟩;have Ax:=Hd (Aj.o.tr Ak);clear Ak p3;go_wp2_with fail;go_ret;exact⟨aL HE.o.symm,Ax.o⟩
theorem aO1(d:Dc)(be:Nat)(E:Option Addr)(ne ec:Nat)(w:World)(ho:nF d)(hn:ne<=9223372036854775807)(he:w.cell? ⟨be,0,none⟩=some (.slice E ne ec)):
 Calls Tryz.prog 97 #[.agg (aU d),.pointer (some ⟨be,0,none⟩)] w fun e w'=>e=.returned (.bool (!eW ne bQ d))/\Below w.heap.size w w':=by
 have HF:=Hd fun w1 hw=>mG w d w1 hw;have HL:=Hd fun w1=>jJ d.nm w1 (by have:=ho.1;unfold maxLen at this;omega);have HR:=Hd fun w1=>bC1 E ne ec d.k d.e d.l w1 hn;have HT:=Hd fun w1=>bC2 d w1 ho;have HE:=Hd (aUb ne d);have Ey:=Hd (Yi _ _ he);have Aq:=Hd he;clear ho he;unfold aU at HF HT⊢;unfold aO at HR;generalize eW ne bQ d=Au at *;generalize bE d.nm.data.toList=lb at *;generalize bQ ne d.k d.e d.l=rb at *;generalize tJ d=tb at *;go_in
 go_upto_region 1 with(fail);generalize Ag:w.alloc _=w1;obtain⟨Aa,hg,hcell⟩:=HF.o w1 Ag;have Ac:=Hd Aa;have HC:=Hd hcell;have q0:=hcell w1 (Yg _ _) 0;simp only[Ya,Yb,Yc]at q0;clear Ag hcell Aa HF;cases lb with
 |false=>
  go_wp2_with fail;refine(HL.o w1).mono ?_;exact aNe
 |true=>
  go_wp2_with fail;refine(HL.o w1).mono ?_;rintro e w2 ⟨rfl,Ad⟩;have Aj:=Hd (Ac.o.tr Ad);obtain⟨-,p1,p2,p3,-,-⟩:=Sx (HC.o w2 Ad);simp only[Ya,Yb,Yc]at p1 p2 p3;have pe:=(Aj.o.cell (p:=⟨be,0,none⟩) Ey.o).trans Aq.o;have Dh:=Hd Ad;clear Ad q0;cases rb with
  |false=>
   go_wp2_with fail;refine(HR.o w2).mono ?_;rintro e w3 ⟨rfl,Ak⟩;have Ax:=Hd (Aj.o.tr Ak);clear Ak p1 p2 p3 pe;exact pD
  |true=>
   go_wp2_with fail;refine(HR.o w2).mono ?_;rintro e w3 ⟨rfl,Ak⟩;have Ax:=Hd (Aj.o.tr Ak);have Cr:=Dh.o.tr Ak;obtain⟨s0,s1,s2,s3,s4,s5⟩:=Sx (HC.o w3 Cr);simp only[Ya,Yb,Yc]at s0 s1 s2 s3 s4 s5;clear Ak p1 p2 p3 pe Cr;go_wp2_with fail;refine(HT.o w3).mono ?_;rintro e w4 ⟨rfl,Bk⟩;have Be:=Hd (Ax.o.tr Bk);clear Bk s0 s1 s2 s3 s4 s5;generalize Nr:(!tb)=nt at *;cases nt with
   |true=>
    exact aN6
   |false=>
    exact aN6
theorem bFz(d:Dc)(bv be:Nat)(E:Option Addr)(ne ec:Nat)(w:World)(ho:nF d)(hn:ne<=9223372036854775807)(he:w.cell? ⟨be,0,none⟩=some (.slice E ne ec))
 (hv:w.cell? ⟨bv,0,none⟩=some (.func (.func 97) #[] #[.pointer (some ⟨be,0,none⟩)])):
 Calls Tryz.prog 101 #[.agg (aU d),.pointer (some ⟨bv,0,none⟩)] w fun e w'=>e=.returned (.bool (!(eW ne bQ d && eI d.on)))/\Below w.heap.size w w':=by
 have HF:=Hd fun w1 hw=>mG w d w1 hw;have HV:=Hd fun w1 (hb:Below w.heap.size w w1)=>aO1 d be E ne ec w1 ho hn ((hb.cell (p:=⟨be,0,none⟩) (Yi _ _ he)).trans he);have HE:=Hd (show eI d.on=(d.on.toList==[])by rw[Zc];rfl);have Mt:=Hd (Yi _ _ hv);have Hw:=Hd hv;clear ho he hv;unfold aU at HF HV⊢;rw[HE.o];clear HE;generalize eW ne bQ d=db at *;go_in
 go_upto_region 1 with(fail);generalize Ag:w.alloc _=w1;obtain⟨Aa,hg,hcell⟩:=HF.o w1 Ag;have Ac:=Hd Aa;have HC:=Hd hcell;have Aq:=Hd (HV.o w1 Aa);have qv:=(Aa.cell (p:=⟨bv,0,none⟩) Mt.o).trans Hw.o;obtain⟨q0,q1,q2,q3,q4,q5⟩:=Sx (hcell w1 (Yg _ _));simp only[Ya,Yb,Yc]at q0 q1 q2 q3 q4 q5;clear Ag hcell Aa HF HV;cases db with
 |false=>
  go_wp2_with fail;refine Aq.o.mono ?_;rintro e w2 ⟨rfl,Ad⟩;have Aj:=Hd (Ac.o.tr Ad);clear Ad q0 q1 q2 q3 q4 q5 qv;go_wp2_with fail;go_ret;exact⟨rfl,Aj.o⟩
 |true=>
  go_wp2_with fail;refine Aq.o.mono ?_;rintro e w2 ⟨rfl,Ad⟩;have Aj:=Hd (Ac.o.tr Ad);have p4:=HC.o w2 Ad 4;simp only[Ya,Yb,Yc]at p4;clear Ad q0 q1 q2 q3 q4 q5 qv;have An:(d.on.toList !=[])=!(d.on.toList==[]):=rfl;cases h1:(d.on.toList==[])with
  |true=>
   exact aOf
  |false=>
   exact aOf
theorem bC3(x:Nd)(A1:Option Addr)(c1:Nat)(A2:Option Addr)(c2:Nat)(A3:Option Addr)(c3:Nat)(A4:Option Addr)(c4:Nat)(b:Nat)(s:ByteArray)(w:World)(h:cF w x A1 A2 A3 A4)(hs:w.cell? ⟨b,0,none⟩=some (.string s)):
 Calls Tryz.prog 150 #[.agg (bK x A1 c1 A2 c2 A3 c3 A4 c4),.pointer (some ⟨b,0,none⟩)] w fun e w'=>e=.returned (.bool (x.nm.toList==s.toList))/\Below w.heap.size w w':=by
 have HF:=Hd fun w1 hw=>iE w x A1 c1 A2 c2 A3 c3 A4 c4 w1 hw h;have HS:=Hd hs;clear hs h;unfold bK;generalize hq:(x.nm.toList==s.toList)=Au;go_in
 go_upto_region 1 with(fail);generalize Ag:w.alloc _=w1;obtain⟨Aa,hg,Aq,hcell⟩:=HF.o w1 Ag;have Ac:=Hd Aa;have q0:=hcell w1 (Yg _ _) 0;simp only[bK,List.getElem?_toArray,Yz,Zb]at q0;have q5:=(Aa.cell (p:=⟨b,0,none⟩) (Yi _ _ HS.o)).trans HS.o;clear Ag hcell Aa HF Aq;go_wp2_with fail;go_ret;exact⟨rfl,Ac.o⟩
theorem aLo(p:Pg)(E:Option Addr)(ec:Nat)(N:Option Addr)(nc:Nat)(s:ByteArray)(w:World)(h:cJ w p E N):
 Calls Tryz.prog 116 #[.agg (aK p E ec N nc),.string s] w fun e w'=>e=.returned (.int .i64 (cY p s))/\Below w.heap.size w w':=by
 have HF:=Hd fun w1 hw=>kW w p E ec N nc w1 hw h;have Nt:∀fn first cap w,(Instr.makeFunc fn first cap).run Tryz.prog w=.ok (.func fn first cap) w:=fun _ _ _ _=>rfl
 unfold aK;generalize Aq:cY p s=Au;go_in
 go_upto_region 1 with(fail);generalize Ag:w.alloc _=w1;obtain⟨Aa,hg,Bx,hcell⟩:=HF.o w1 Ag;have Ac:=Hd Aa;have Jx:=Hd hcell;have Bi:=Hd Bx;have Dg:=Hd fun w2 (hw:w1.alloc (.cells #[.string s] 9)=w2)=>(show w2.cell? ⟨w1.heap.size,0,none⟩=some (.string s)/\Below w1.heap.size w1 w2 by
  subst hw;exact⟨by rw[Zp];rfl,(Yg _ _).alloc (Yh _) _⟩)
 clear Ag hcell Aa HF h Bx;generalize Br:w1.alloc _=w2;obtain⟨Bp,Ad⟩:=Dg.o w2 Br;have q1:=Jx.o w2 Ad 1;simp only [aK,List.getElem?_toArray,Yz,Zb] at q1;have Aj:=Hd (Ac.o.tr Ad);have HC:=Hd (aIi 150 #[.pointer (some ⟨w1.heap.size,0,none⟩)] (fun _ _=>rfl) (fun n=>n.nm.toList==s.toList) N p.ns.length nc p.ns w2 (Bi.o.below Ad).2
  fun x _ A1 c1 A2 c2 A3 c3 A4 c4 W hW hr=>bC3 x A1 c1 A2 c2 A3 c3 A4 c4 w1.heap.size s W hr ((hW.cell (Yi _ _ Bp)).trans Bp))
 have HO:=Hd (show bR (fun n:Nd=>n.nm.toList==s.toList) p.ns 0=Au by rw[<-Aq];unfold cY;congr 1;funext n;rw[Zc,Zc]);rw[HO.o]at HC;clear Br Bp Ad Dg HO Aq;rw[hg]at HC;go_wp2_with fail;refine HC.o.mono ?_;rintro e w3 ⟨rfl,Ak⟩;have Ax:=Hd (Aj.o.tr Ak);clear Ak;go_wp2_with fail;go_ret;exact⟨rfl,Ax.o⟩
end
end Go.Proofs.YtkbpdoomhfkngaaGreat
