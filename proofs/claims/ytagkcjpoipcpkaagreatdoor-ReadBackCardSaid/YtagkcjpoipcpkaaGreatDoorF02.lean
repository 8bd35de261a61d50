/- A part of the proof. Conditions: each theorem's own. -/
import Derived.Test.YtagkcjpoipcpkaaGreatDoorF01
namespace Go.Proofs.YtagkcjpoipcpkaaGreatDoor
set_option linter.unusedVariables false
set_option linter.unusedSimpArgs false
set_option maxRecDepth 100000
set_option maxHeartbeats 40000000
section
open Go.RowKit Go.Maps Go.WideMaps
theorem Yu:type_of% @Bool.and_eq_true:=@Bool.and_eq_true
theorem Yx:type_of% @List.cons_append:=@List.cons_append
theorem Xc:type_of% @decide_eq_true:=@decide_eq_true
theorem Xd:type_of% @decide_eq_false:=@decide_eq_false
end
section
open Go.RowKit
def Rd(k:IntKind)(w:World)(A:OA)(n c:Nat)(l:List Int):Prop:=
 l.length=n/\n<=c/\c<=maxLen/\(∀z∈l,(Lit.int k z).wf=true)/\
 (0<n->∃b off,A=some ⟨b,off,none⟩/\b<w.heap.size/\∀i,i<n->w.cell? ⟨b,off+i,none⟩=some (.int k (l[i]?.getD 0)))
section
variable {k:IntKind}{w w':World}{A:OA}{n c:Nat}{l:List Int}
theorem Rd.nil_(k:IntKind)(w:World):Rd k w none 0 0 []:=⟨rfl,Yh _,by decide,by simp,by omega⟩
theorem Rd.len(h:Rd k w A n c l):l.length=n:=h.1
theorem Rd.le(h:Rd k w A n c l):n<=c:=h.2.1
theorem Rd.max(h:Rd k w A n c l):n<=9223372036854775807:=by
 have h1:=h.2.1;have h2:=h.2.2.1;unfold maxLen at h2;omega
theorem Rd.at_(h:Rd k w A n c l){i:Nat}(hi:i<n):
 ∃b off,A=some ⟨b,off,none⟩/\b<w.heap.size/\∀i,i<n->w.cell? ⟨b,off+i,none⟩=some (.int k (l[i]?.getD 0)):=
 h.2.2.2.2 aA
theorem Rd.wf(h:Rd k w A n c l){i:Nat}(hi:i<n):(Lit.int k (l[i]?.getD 0)).wf=true:=by
 have h1:=h.1
 have:l[i]?.getD 0∈l:=by
  exact bEl
 exact h.2.2.2.1 _ this
theorem Rd.u8(h:Rd .u8 w A n c l){i:Nat}(hi:i<n):0<=l[i]?.getD 0/\l[i]?.getD 0<=255:=by
 simpa[Lit.wf,IntKind.min,IntKind.max,IntKind.signed,IntKind.bits]using h.wf hi
theorem Rd.keep(h:Rd k w A n c l)(hs:w.heap.size<=w'.heap.size)(hk:∀p:Addr,p.block<w.heap.size->w'.cell? p=w.cell? p):Rd k w' A n c l:=
 ⟨h.1,h.2.1,h.2.2.1,h.2.2.2.1,fun hn=>by
  obtain⟨b,off,e,hb,hc⟩:=h.2.2.2.2 hn;exact⟨b,off,e,by omega,fun i hi=>(hk _ hb).trans (hc i hi)⟩⟩
theorem Rd.below(h:Rd k w A n c l)(hb:Below w.heap.size w w'):Rd k w' A n c l:=h.keep hb.size fun _ hp=>hb.cell hp
theorem Rd.drewN(h:Rd k w A n c l)(m:Nat):Rd k (w.drewN m) A n c l:=h
theorem Rd.drew(h:Rd k w A n c l):Rd k w.drew A n c l:=h
theorem Rd.alloc(h:Rd k w A n c l)(o:Obj):Rd k (w.alloc o) A n c l:=h.below ((Yg _ _).alloc (Yh _) o)
end
theorem Rd.of_own{k:IntKind}{w:World}{base:Nat}{e:TypeId}{v:Value}{n:Nat}{xs:LV}{l:List Int}(h:w.ownsRow base e 1 v n xs)(hx:xs=l.map (Value.int k))(Aa:∀z∈l,(Lit.int k z).wf=true):
 ∃A c,v=.slice A n c/\Rd k w A n c l/\(0<n->∃g,A=some ⟨g,0,none⟩/\base<=g):=by
 subst hx;have hl:l.length=n:=by have:=h.1;simpa using this
 rcases h.2 with⟨rfl,rfl⟩|⟨g,cap,cur,rfl,hg,hh,hnc,hcm,hcs,ht⟩
 . obtain rfl:l=[]:=Zu hl;exact⟨none,0,rfl,Rd.nil_ _ _,by omega⟩
 . refine⟨_,cap,rfl,⟨hl,hnc,hcm,Aa,fun hn=>⟨g,0,rfl,?_,fun i hi=>?_⟩⟩,fun _=>⟨g,rfl,hg⟩⟩;· exact(Ym.1 hh).1
   . have h1:=h.cellAt i aA;rw[Nat.zero_add,h1];simp[Yk (show i<l.length by omega)]
theorem Rd.news{k:IntKind}{w:World}{a:Addr}{n c:Nat}{l:List Int}(h:Rd k w (some a) n c l)(j:Nat)(u:Value)(hu:(l.map (Value.int k))[j]?=some u):w.cell? (a.add j)=some u:=by
 exact bGz
theorem eP{B:Nat}{a w:World}(h:Below B a w)(n:Nat):Below B a (w.drewN n):=⟨h.os,h.tape,h.output,h.size,h.block⟩
theorem iL{k:IntKind}{a b:Int}(h:a=b):Ending.returned (.int k a)=.returned (.int k b):=by rw[h]
theorem aO{a b:Bool}(h:a=b):Ending.returned (.bool a)=.returned (.bool b):=by rw[h]
end
def fV(n:Int):Bool:=decide (97<=n/\n<=122)
def jZ(n:Int):Bool:=decide (65<=n/\n<=90)
def cC(n:Int):Bool:=decide (48<=n/\n<=57)
def cZ(n:Int):Bool:=fV n || jZ n || cC n || decide (n=95)
def fA(first:Int->Bool)(l:LU):Bool:=
 decide (1<=l.length/\l.length<=12) && (match l with|[]=>false|c::_=>first (c.toNat:Int)) && l.all fun c=>cZ (c.toNat:Int)
def uM:List (List UInt8):=[[110,111,100,101],[114,101,116,117,114,110,115],[118,97,114],[108,101,116],[116,101,108],[101,110,117,109],[105,102],[116,104,101,110],[101,108,115,101],[102,98,121],[112,114,101],[119,104,101,110],[109,101,114,103,101],[101,118,101,114,121],[110,111,116],[97,110,100],[111,114],[120,111,114],[109,111,100],[116,114,117,101],[102,97,108,115,101],[105,110,116],[98,111,111,108],[119,105,116,104]]
def bQ(l:LU):Bool:=decide (l∈uM)
def aQ(l:LU):Bool:=fA fV l && !bQ l
def dF(l:LU):Bool:=fA jZ l
def dW(c:UInt8):List UInt8->List (List UInt8)
 |[]=>[[]]
 |b::l=>if b=c then []::dW c l else match dW c l with|[]=>[[b]]|p::ps=>(b::p)::ps
def kU(l:LU):Bool:=
 decide (1<=l.length/\l.length<=3) && (match l with|[]=>false|c::_=>!decide (c=48)) && l.all fun c=>cC (c.toNat:Int)
def aJ6:List (List UInt8)->Bool
 |[a]=>aQ a
 |[a,n]=>aQ a && kU n
 |_=>false
def gQ(l:LU):Bool:=aJ6 (dW 46 l)
def fJ(l:LU):Bool:=(dW 47 l).all gQ
theorem aE4(c:UInt8)(l:LU):dW c l≠[]:=by
 cases l with
 |nil=>simp[dW]
 |cons b l=>
  unfold dW;split;· simp
  . split<;>simp
theorem aBp{c:UInt8}:∀{l:LU},c∉l->dW c l=[l]
 |[],_=>rfl
 |b::l,h=>by
  have h1:b≠c:=fun e=>h yW;have h2:=aBp (l:=l) (fun m=>h (Zi _ m));simp[dW,h1,h2]
theorem aHy{c:UInt8}:∀(p r:LU),dW c (p++c::r)=dW c p++dW c r
 |[],r=>by simp[dW]
 |b::p,r=>by
  have ih:=aHy (c:=c) p r;by_cases hb:b=c;· simp[dW,hb,ih]
  . have hn:=aE4 c p;cases hp:dW c p with
    |nil=>exact absurd hp hn
    |cons q qs=>simp[dW,hb,ih,hp]
theorem aYl{c:UInt8}{p r:LU}(h:c∉p):dW c (p++c::r)=p::dW c r:=by
 rw[aHy,aBp h];rfl
theorem bQ5{n:Int}(h:cZ n=true):48<=n/\n<=122:=by
 simp[cZ,fV,jZ,cC]at h;omega
theorem bNl{first:Int->Bool}{l:LU}(h:fA first l=true):∀c∈l,cZ (c.toNat:Int)=true:=by
 simp[fA]at h;exact h.2
theorem bQ6(s t:LU):fJ (s++47::t)=(fJ s && fJ t):=by
 unfold fJ;rw[aHy,List.all_append]
theorem bK7{l:LU}(h:(46:UInt8)∈l):kU l=false:=by
 cases hn:kU l with
 |false=>rfl
 |true=>
  simp[kU]at hn
  have:=hn.2 46 h
  revert this
  decide
theorem aS4{l:LU}(h:(46:UInt8)∉l):gQ l=aQ l:=by
 unfold gQ;rw[aBp h];rfl
theorem aWk{p r:LU}(h:(46:UInt8)∉p):gQ (p++46::r)=(aQ p && kU r):=by
 unfold gQ;rw[aYl h];by_cases hr:(46:UInt8)∈r
 . rw[bK7 hr];obtain⟨a,b,rfl⟩:=List.append_of_mem hr;rw[aHy];have h1:=aE4 46 a;have h2:=aE4 46 b;cases ha:dW 46 a with
   |nil=>exact absurd ha h1
   |cons x xs=>
    cases hb:dW 46 b with
    |nil=>exact absurd hb h2
    |cons y ys=>
     cases xs with
     |nil=>simp[aJ6]
     |cons z zs=>simp[aJ6]
 . rw[aBp hr];rfl
theorem aS5{l:LU}{c:UInt8}(h:Lib.indexByte l c<0):c∉l:=by
 induction l with
 |nil=>simp
 |cons b l ih=>
  unfold Lib.indexByte at h;have hg:=Lib.indexByte_ge l c;split at h;· omega
  . split at h
    . rename_i h1 h2
      have:=ih (by simp at h2;omega)
      simp at h1;simp[this];exact fun e=>h1 e.symm
    . rename_i h1 h2;simp at h2;omega
theorem aS6{l:LU}{c:UInt8}(h:0<=Lib.indexByte l c):
 ∃k:Nat,Lib.indexByte l c=k/\k<l.length/\c∉l.take k/\l=l.take k++c::l.drop (k+1):=by
 induction l with
 |nil=>simp[Lib.indexByte]at h
 |cons b l ih=>
  unfold Lib.indexByte at h⊢;have hg:=Lib.indexByte_ge l c;by_cases hb:b=c
  . subst hb;exact⟨0,by simp,by simp,by simp,by simp⟩
  . have Jb:(b==c)=false:=by simpa using hb
    simp only[Jb,Zb,if_false]at h⊢;by_cases h1:Lib.indexByte l c=-1;· simp[h1]at h
    . have Aa:(Lib.indexByte l c==-1)=false:=by simpa using h1
      simp only[Aa,Zb,if_false]at h⊢;obtain⟨k,e1,e2,e3,e4⟩:=ih aA;refine⟨k+1,by omega,by simp;omega,?_,?_⟩
      . simp;exact⟨fun e=>hb e.symm,e3⟩
      . simp;exact e4
theorem aMb{l:LU}(h:(47:UInt8)∉l):fJ l=gQ l:=by
 unfold fJ;rw[aBp h];simp
theorem aYm{p r:LU}(h:(47:UInt8)∉p):fJ (p++47::r)=(gQ p && fJ r):=by
 rw[bQ6,aMb h]
def aJ7(ls:List (List UInt8)):Bool:=decide ls.Nodup
section
open Go.RowKit
theorem zZ(x:Int)(w:World):Calls Tryz.prog 160 #[.int .i32 x] w fun e w'=>e=.returned (.bool (fV x))/\w=w':=by
 by_cases h1:97<=x
 all_goals
  go_in
  go_wp2;go_ret;exact⟨aO (by rw[Zq];simp[fV,h1]<;>omega),rfl⟩
theorem aB4(x:Int)(w:World):Calls Tryz.prog 184 #[.int .i32 x] w fun e w'=>e=.returned (.bool (jZ x))/\w=w':=by
 by_cases h1:65<=x
 all_goals
  go_in
  go_wp2;go_ret;exact⟨aO (by rw[Zq];simp[jZ,h1]<;>omega),rfl⟩
theorem aNn(x:Int)(w:World):Calls Tryz.prog 228 #[.int .i32 x] w fun e w'=>e=.returned (.bool (cC x))/\w=w':=by
 exact bCr
theorem xK(x:Int)(w:World):Calls Tryz.prog 195 #[.int .i32 x] w fun e w'=>e=.returned (.bool (cZ x))/\w=w':=by
 by_cases h1:fV x=true
 . go_in
   go_wp2_with fail;refine(zZ x _).mono ?_;rintro e w' ⟨rfl,rfl⟩;go_wp2_with fail;go_ret;exact⟨aO (by simp[cZ,h1]),rfl⟩
 . have h1:fV x=false:=by simpa using h1
   by_cases h2:jZ x=true
   . go_in
     go_wp2_with fail;refine(zZ x _).mono ?_;rintro e w' ⟨rfl,rfl⟩;go_wp2_with fail;refine(aB4 x _).mono ?_;rintro e w' ⟨rfl,rfl⟩;go_wp2_with fail;go_ret;exact⟨aO (by simp[cZ,h2]),rfl⟩
   . have h2:jZ x=false:=by simpa using h2
     by_cases h3:cC x=true
     all_goals
      go_in
      go_wp2_with fail;refine(zZ x _).mono ?_;rintro e w' ⟨rfl,rfl⟩;go_wp2_with fail;refine(aB4 x _).mono ?_;rintro e w' ⟨rfl,rfl⟩;go_wp2_with fail;refine(aNn x _).mono ?_;rintro e w' ⟨rfl,rfl⟩;go_wp2_with fail;go_ret;exact⟨aO (by rw[Zq];simp[cZ,h1,h2,h3]),rfl⟩
theorem bJf(s:BA)(c:Int)(w:World):
 Calls Tryz.prog 208 #[.string s,.int .u8 c] w fun e w'=>e=.returned (.int .i64 (Lib.indexByte s.data.toList c.toNat.toUInt8))/\w=w':=by
 go_in
 go_wp2;rw[run_callFunc_extern Tryz.func236 aE aE aE (e:=Extern.BytealgIndexByte.indexByte) aE,Lib.run_indexByteString];simp only[Result.andThen];rw[Oper.upon_value];go_wp2;go_ret;exact⟨rfl,rfl⟩
theorem aUw(s:BA)(c:UInt8)(w:World):
 Calls Tryz.prog 183 #[.string s,.string ⟨#[c]⟩] w fun e w'=>e=.returned (.int .i64 (Lib.indexByte s.data.toList c))/\w=w':=by
 go_in
 go_wp2_with (go_at_call 208;refine(bJf _ _ _).mono ?_;rintro e w' ⟨rfl,rfl⟩)
 . have h:([c]==s.toList)=true:=by assumption
   go_ret;refine⟨?_,rfl⟩;have e:s.data.toList=[c]:=by rw[<-Zf];exact(beq_iff_eq.1 h).symm
   rw[e];simp[Lib.indexByte]
 . go_ret;refine⟨iL ?_,rfl⟩;congr 1
def aGn(c:UInt8)(s:BA)(w:World)(e:Ending)(w':World):Prop:=
 ∃(a b:BA)(f:Bool),e=.returned (.tuple #[.string a,.string b,.bool f])/\Below w.heap.size w w'/\c∉a.data.toList/\
  (f=false->s.data.toList=a.data.toList)/\(f=true->s.data.toList=a.data.toList++c::b.data.toList)
theorem bVg{c:UInt8}{s:BA}{w:World}(h:Lib.indexByte s.data.toList c<0):
 aGn c s w (.returned (.tuple #[.string s,.string ⟨#[]⟩,.bool false])) w:=
 ⟨s,_,false,rfl,Yg _ _,aS5 h,fun _=>rfl,fun h=>by cases h⟩
theorem bQ7{c:UInt8}{s:BA}{w:World}{k m:Nat}{n:Nat}(hn:n=s.size)(h2:k<s.data.toList.length)(h3:c∉s.data.toList.take k)(h4:s.data.toList=s.data.toList.take k++c::s.data.toList.drop (k+1)):
 aGn c s w (.returned (.tuple #[.string (s.extract 0 k),.string (s.extract (k+1) n),.bool true])) (w.drewN m):=by
 subst hn;have e1:(s.extract 0 k).data.toList=s.data.toList.take k:=by rw[Lib.extract_data];simp
 have e2:(s.extract (k+1) s.size).data.toList=s.data.toList.drop (k+1):=by
  exact aPy
 refine⟨_,_,true,rfl,eP (Yg _ _) m,?_,fun h=>by(cases h),fun _=>?_⟩;· rw[e1];exact h3
 . rw[e1,e2];exact h4
theorem bVh(s:BA)(c:UInt8)(w:World)(hs:s.size<=9223372036854775806):
 Calls Tryz.prog 134 #[.string s,.string ⟨#[c]⟩] w (aGn c s w):=by
 rcases(show Lib.indexByte s.data.toList c<0\/0<=Lib.indexByte s.data.toList c by omega)with h|h
 . have HC:=Hd (bVg (w:=w) h);have Aa:=Lib.indexByte_ge s.data.toList c;generalize hi:Lib.indexByte s.data.toList c=i at h Aa;have HI:=Hd hi;clear hi;go_in
   go_wp2_with fail;refine(aUw s c _).mono ?_;rintro e w' ⟨rfl,rfl⟩;rw[HI.o];go_wp2_with fail;exact Zy (v:=.tuple #[.string s,.string ⟨#[]⟩,.bool false]) bGf rfl HC.o
 . obtain⟨k,hi,h2,h3,h4⟩:=aS6 h;have HC:=fun m=>Hd (bQ7 (w:=w) (m:=m) (n:=s.size) rfl h2 h3 h4);have hk:k<s.size:=by rw[Zp];exact h2
   have HI:=Hd hi;clear hi h h2 h3 h4;have h5:IntKind.i64.wrap ((k:Int)+1)=(k:Int)+1:=IntWalk.i64_in _ aA;have h6:((k:Int)+1).toNat=k+1:=aA;have h7:(0:Int)<=(k:Int)+1:=aA;go_in
   go_wp2_with fail;refine(aUw s c _).mono ?_;rintro e w' ⟨rfl,rfl⟩;rw[HI.o];go_wp2_with fail;go_quiet (fail);go_wp2_with fail;exact Zy (v:=.tuple #[.string (s.extract 0 k),.string (s.extract (k+1) s.size),.bool true]) bGf rfl (HC _).o
theorem aIz(s:BA)(c:UInt8)(w:World)(hs:s.size<=9223372036854775806):
 Calls Tryz.prog 74 #[.string s,.string ⟨#[c]⟩] w (aGn c s w):=by
 go_in
 go_wp2_with fail;refine(bVh s c _ hs).mono ?_;rintro e w' ⟨a,b,f,rfl,hb,hc,hf,ht⟩;have H:Hid (aGn c s w (.returned (.tuple #[.string a,.string b,.bool f])) w'):=Hd ⟨a,b,f,rfl,hb,hc,hf,ht⟩;clear hb hc hf ht;go_wp2_with fail;exact Zy (v:=.tuple #[.string a,.string b,.bool f]) (by simp[results,Tryz.results74,go_sem]) rfl H.o
theorem aWl{s:BA}{l:LU}(h:(s.toList==l)=true)(hl:l∈uM):bQ s.data.toList=true:=by
 rw[Zf]at h;rw[beq_iff_eq.1 h];simp[bQ,hl]
theorem bNm{s:BA}{l:LU}(h:(s.toList==l)=true)(h2:(s.toList==l)=false):False:=by
 rw[h]at h2;cases h2
theorem aYn{s:BA}(h:∀l∈uM,(s.toList==l)=false):bQ s.data.toList=false:=by
 simp only[bQ,decide_eq_false_iff_not];intro hm
 have:=h _ hm
 rw[Zf]at this;simp at this
theorem xS(s:BA)(w:World):Calls Tryz.prog 138 #[.string s] w fun e w'=>e=.returned (.bool (bQ s.data.toList))/\w=w':=by
 go_in
 go_wp2
 all_goals
  go_ret
  first
   |exact⟨aO (aWl mY aF).symm,rfl⟩
   |(exfalso;exact bNm mY mY)
   |exact⟨aO (aYn (fun l hl=>by simp only[uM,Yw,Yl,or_false]at hl;rcases hl with h|h|h|h|h|h|h|h|h|h|h|h|h|h|h|h|h|h|h|h|h|h|h|h<;>subst h<;>assumption)).symm,rfl⟩
def aS(w:World)(A:OA)(n:Nat)(ss:LB):Prop:=
 ss.length=n/\n<=9223372036854775807/\
 (0<n->∃b off,A=some ⟨b,off,none⟩/\b<w.heap.size/\∀i,i<n->w.cell? ⟨b,off+i,none⟩=some (.string (ss[i]?.getD ByteArray.empty)))
section
variable {w w':World}{A:OA}{n:Nat}{ss:LB}
theorem aS.nil_(w:World):aS w none 0 []:=⟨rfl,by omega,by omega⟩
theorem aS.len(h:aS w A n ss):ss.length=n:=h.1
theorem aS.max(h:aS w A n ss):n<=9223372036854775807:=h.2.1
theorem aS.at_(h:aS w A n ss){i:Nat}(hi:i<n):
 ∃b off,A=some ⟨b,off,none⟩/\b<w.heap.size/\∀i,i<n->w.cell? ⟨b,off+i,none⟩=some (.string (ss[i]?.getD ByteArray.empty)):=
 h.2.2 aA
theorem aS.keep(h:aS w A n ss)(hs:w.heap.size<=w'.heap.size)(hk:∀p:Addr,p.block<w.heap.size->w'.cell? p=w.cell? p):aS w' A n ss:=
 ⟨h.1,h.2.1,fun hn=>by
  obtain⟨b,off,e,hb,hc⟩:=h.2.2 hn;exact⟨b,off,e,by omega,fun i hi=>(hk _ hb).trans (hc i hi)⟩⟩
theorem aS.below(h:aS w A n ss)(hb:Below w.heap.size w w'):aS w' A n ss:=h.keep hb.size fun _ hp=>hb.cell hp
theorem aS.drewN(h:aS w A n ss)(m:Nat):aS (w.drewN m) A n ss:=h
theorem aS.alloc(h:aS w A n ss)(o:Obj):aS (w.alloc o) A n ss:=h.below ((Yg _ _).alloc (Yh _) o)
theorem aS.of_own{base:Nat}{e:TypeId}{v:Value}(h:w.ownsRow base e 1 v n (ss.map Value.string))(hm:n<=9223372036854775807):
 ∃A c,v=.slice A n c/\aS w A n ss/\(A=none->n=0):=by
 have hl:ss.length=n:=by have:=h.1;simpa using this
 rcases h.2 with⟨rfl,rfl⟩|⟨g,cap,cur,rfl,hg,hh,hnc,hcm,hcs,ht⟩
 . obtain rfl:ss=[]:=Zu hl;exact⟨none,0,rfl,aS.nil_ _,fun _=>rfl⟩
 . refine⟨_,cap,rfl,⟨hl,hm,fun hn=>⟨g,0,rfl,?_,fun i hi=>?_⟩⟩,fun h=>by cases h⟩;· exact(Ym.1 hh).1
   . have h1:=h.cellAt i aA;rw[Nat.zero_add,h1];simp[Yk (show i<ss.length by omega)]
theorem aS.lit(w:World)(T:TypeId)(ss:LB)(n:Nat)(hn:ss.length=n)(hm:n<=9223372036854775807)(cs:AV)(hcs:cs=(ss.map Value.string).toArray):
 aS (w.alloc (.cells cs T)) (some ⟨w.heap.size,0,none⟩) n ss:=by
 subst hcs hn;refine⟨rfl,hm,fun _=>⟨_,_,rfl,by simp,fun i hi=>?_⟩⟩;rw[Nat.zero_add,Zs];simp[Yk hi]
end
theorem aYo{w:World}{x:Addr}{n:Nat}{ss:LB}(Cz:n<=ss.length)(hm:n<=9223372036854775807)(hc:∀i,i<ss.length->w.cell? (x.add i)=some (.string (ss.getD i ByteArray.empty))):
 aS w (some x) n (ss.take n):=by
 refine⟨by simp;omega,hm,fun hn=>?_⟩;obtain⟨b,off,Ae⟩:=x;have h0:=hc 0 aA;have Aa:Ae=none:=bGc;subst Aa;have Fd:∀i,(⟨b,off,none⟩:Addr).add i=⟨b,off+i,none⟩:=fun i=>by unfold Addr.add;split<;>simp_all
 refine⟨b,off,rfl,Yi w _ h0,fun i hi=>?_⟩;rw[<-Fd,hc i aA,List.getElem?_take_of_lt hi,List.getD_eq_getElem?_getD]
theorem zI{a b c:World}(h1:Below a.heap.size a b)(h2:Below b.heap.size b c):Below a.heap.size a c:=h1.tr h2
end
section
open Go.RowKit
def xT:List ByteArray:=uM.map fun l=>⟨l.toArray⟩
theorem bNn(k:Nat)(h:k<24):∃(l:LU)(x:BA),xT[k]?=some x/\x.toList=l/\l∈uM:=by
 have hl:k<uM.length:=h;refine⟨uM[k],⟨uM[k].toArray⟩,?_,?_,Zk hl⟩;· simp[xT,Yk hl]
 . rw[Zf]
theorem bK8{s:BA}(h:∀j,j<24->((xT[j]?.getD ByteArray.empty).toList==s.toList)=false):bQ s.data.toList=false:=by
 apply aYn;intro l hl;obtain⟨k,hk,e⟩:=Zm hl;have h1:=h k hk;have h2:xT[k]?=some ⟨l.toArray⟩:=by
  simp[xT,Yk hk,e]
 rw[h2]at h1;simp only[Yv,Zf]at h1;rw[Zf];rw[Xf]at h1⊢;exact fun e=>h1 e.symm
theorem bQ8(w:World):Calls Tryz.prog 169 #[] w fun e w'=>∃A,e=.returned (.slice A 24 24)/\aS w' A 24 xT/\Below w.heap.size w w':=by
 have HL:=Hd fun(cs:AV)(T:TypeId)=>aS.lit w T xT 24 rfl aA cs;go_in
 go_wp2;go_ret;exact⟨_,rfl,HL.o _ _ bC,(Yg _ _).alloc (Yh _) _⟩
theorem bVi(s:BA)(w:World):Calls Tryz.prog 120 #[.string s] w fun e w'=>e=.returned (.bool (bQ s.data.toList))/\Below w.heap.size w w':=by
 go_in
 go_wp2_with fail;refine(bQ8 _).mono ?_;rintro e w' ⟨A,rfl,Fs,Aq⟩;have HB:=Hd Aq;obtain⟨b,off,rfl,hb,hc⟩:=Fs.at_ (i:=0) aA;have HC:=Hd hc;clear Aq Fs hc;go_wp2_with fail;go_loop [4] (fun i=>∃k:Nat,k<=24/\i=.int .i64 k/\∀j,j<k->((xT[j]?.getD ByteArray.empty).toList==s.toList)=false) (fun i=>24-(intOf i).toNat)
 case atStart=>exact⟨0,Ys _,rfl,fun j hj=>absurd hj aA⟩
 case round=>
  obtain⟨k,hk,rfl,Ae⟩:=hrel;have HA:=Hd Ae;clear Ae;by_cases Ah:k<24
  . obtain⟨l,x,hx,Bs,hm⟩:=bNn k Ah;have Ct:=HC.o k Ah;rw[hx]at Ct;simp only[Yv]at Ct;have HX:=Hd hx;have Ha:=Hd Bs;clear hx Bs;by_cases Aa:(x.toList==s.toList)=true
    . go_wp2;go_ret;refine⟨aO ?_,HB.o⟩;exact(aWl (l:=l) (by rw[beq_iff_eq]at Aa⊢;rw[<-Aa,Ha.o]) hm).symm
    . have Aa:(x.toList==s.toList)=false:=by simpa using Aa
      have HE:=Hd Aa;go_wp2;go_round
      case rel=>
       refine⟨k+1,by omega,by go_num,fun j hj=>?_⟩;rcases Nat.lt_or_ge j k with h|h;· exact HA.o j h
       . obtain rfl:j=k:=by omega
         rw[HX.o];exact HE.o
      case measure=>simp[intOf];omega
  . go_wp2;go_ret;exact⟨aO (bK8 fun j hj=>HA.o j aA).symm,HB.o⟩
section
variable {P:Int->Bool}{s:BA}
theorem aAa(s:BA)(k:Nat)(h:k<s.size):s.data.toList[k]'(by rw[<-Zp];exact h)=s[k]'h:=rfl
theorem aHz(h:s.size<1\/12<s.size):fA P s.data.toList=false:=by
 have:¬(1<=s.data.toList.length/\s.data.toList.length<=12):=aKr
 simp only[fA,Xd this,Bool.false_and]
theorem bZl(s:BA)(k:Nat)(h:k<s.size):s.data.toList[k]?=some (s[k]'h):=by
 rw[<-aAa s k h,Yk]
theorem tD(h:0<s.size):∃F,s.data.toList=s[0]'h::F:=by
 have hl:=bZl s 0 h;generalize s[0]'h=c at hl⊢;cases e:s.data.toList with
 |nil=>rw[e]at hl;simp at hl
 |cons d F=>rw[e]at hl;simp at hl;exact⟨F,by rw[hl]⟩
theorem aS7(h:0<s.size)(hp:P ((s[0]'h).toNat:Int)=false):fA P s.data.toList=false:=by
 obtain⟨F,e⟩:=tD h;rw[e];simp only[fA,hp,Bool.and_false,Bool.false_and]
theorem aIi{k:Nat}(h:k<s.size)(hp:cZ ((s[k]'h).toNat:Int)=false):fA P s.data.toList=false:=by
 have hm:s[k]'h∈s.data.toList:=bF8;cases hn:fA P s.data.toList with
 |false=>rfl
 |true=>rw[bNl hn _ hm]at hp;cases hp
theorem aWm(h1:0<s.size)(h2:s.size<=12)(hp:P ((s[0]'h1).toNat:Int)=true)(ha:∀k (h:k<s.size),cZ ((s[k]'h).toNat:Int)=true):fA P s.data.toList=true:=by
 have hz:=Zp s;have Aa:s.data.toList.all (fun c=>cZ (c.toNat:Int))=true:=by
  exact bCn
 have Ae:decide (1<=s.data.toList.length/\s.data.toList.length<=12)=true:=Xc aA;obtain⟨F,e⟩:=tD h1;unfold fA;rw[Aa,Ae,e];simp only[hp,Bool.and_true]
end
theorem aLw{x:Int}(h:128<=x):cZ x=false:=by
 cases hn:cZ x with
 |false=>rfl
 |true=>have:=bQ5 hn;omega
theorem aNo{P:Program}(w:World)(s:BA)(pos:Nat)(h:pos<s.size):
 ∃(x:Int)(q:Nat),(∀ty,(Instr.next (.pointer (some ⟨w.heap.size,0,none⟩)) true ty).run P (w.iter s pos)=.ok (.tuple #[.bool true,.int .i64 pos,.int .i32 x]) (w.iter s q))/\
  ((x=((s[pos]'h).toNat:Int)/\q=pos+1)\/(128<=x/\128<=(s[pos]'h).toNat/\pos<q)):=by
 by_cases ha:(s[pos]'h).toNat<128;· exact⟨_,_,fun ty=>run_next_ascii (P:=P) w s pos ty h ha,.inl ⟨rfl,rfl⟩⟩
 . have:=decode_high s pos h aA
   exact⟨_,_,fun ty=>run_next_any (P:=P) w s pos ty h,.inr ⟨by omega,by omega,by omega⟩⟩
theorem aBk(w:World)(s:BA)(q:Nat):Below w.heap.size w (w.iter s q):=(Yg _ _).alloc (Yh _) _
def aCk(P:Int->Bool)(s:BA)(pos:Nat):Prop:=
 (∀k (h:k<s.size),k<pos->cZ ((s[k]'h).toNat:Int)=true)/\(0<pos->∀h:0<s.size,P ((s[0]'h).toNat:Int)=true)
section
variable {P:Int->Bool}{s:BA}{pos q:Nat}{x:Int}
theorem aSj:aCk P s 0:=⟨fun k h hk=>absurd hk aA,fun h=>absurd h aA⟩
theorem aMc(hp:pos<s.size)(hx:(x=((s[pos]'hp).toNat:Int)/\q=pos+1)\/(128<=x/\128<=(s[pos]'hp).toNat/\pos<q)):pos<q:=by
 rcases hx with⟨_,h⟩|⟨_,_,h⟩<;>omega
theorem aG5(H:aCk P s pos)(hp:pos<s.size)(hx:(x=((s[pos]'hp).toNat:Int)/\q=pos+1)\/(128<=x/\128<=(s[pos]'hp).toNat/\pos<q))
 (h1:pos=0->P x=true)(h2:cZ x=true):q<=s.size/\aCk P s q:=by
 rcases hx with⟨rfl,rfl⟩|⟨h,_,_⟩
 . refine⟨by omega,fun k hk Ah=>?_,fun _ h0=>?_⟩
   . rcases Nat.lt_or_ge k pos with h|h;· exact H.1 k hk h
     . obtain rfl:k=pos:=by omega
       exact h2
   . rcases Nat.eq_zero_or_pos pos with h|h
     . subst h;exact h1 rfl
     . exact H.2 h h0
 . rw[aLw h]at h2;cases h2
theorem aS8(hp:pos<s.size)(hx:(x=((s[pos]'hp).toNat:Int)/\q=pos+1)\/(128<=x/\128<=(s[pos]'hp).toNat/\pos<q))(h2:cZ x=false):fA P s.data.toList=false:=by
 rcases hx with⟨rfl,rfl⟩|⟨_,h,_⟩;· exact aIi hp h2
 . exact aIi hp (aLw aA)
theorem bJp(hz:pos=0)(hp:pos<s.size)(hx:(x=((s[pos]'hp).toNat:Int)/\q=pos+1)\/(128<=x/\128<=(s[pos]'hp).toNat/\pos<q))(h2:P x=false):fA P s.data.toList=false:=by
 subst hz;rcases hx with⟨rfl,rfl⟩|⟨_,h,_⟩;· exact aS7 hp h2
 . exact aIi hp (aLw aA)
theorem bK9(H:aCk P s pos)(h0:0<s.size)(Cy:s.size<=12)(he:s.size<=pos):fA P s.data.toList=true:=
 aWm h0 Cy (H.2 aA h0) fun k h=>H.1 k h aA
end
theorem aOe(K:FuncId)(P:Int->Bool)(hK:(K=160/\P=fV)\/(K=184/\P=jZ))(s:BA)(w:World)(hs:s.size<=9223372036854775807):
 Calls Tryz.prog 159 #[.string s,.func (.func K) #[] #[]] w fun e w'=>e=.returned (.bool (fA P s.data.toList))/\Below w.heap.size w w':=by
 by_cases h1:s.size<1
 . go_in
   go_wp2;go_ret;exact⟨aO (aHz (.inl h1)).symm,Yg _ _⟩
 . by_cases h2:12<s.size
   . go_in
     go_wp2;go_ret;exact⟨aO (aHz (.inr h2)).symm,Yg _ _⟩
   . have Jh:decide ((s.size:Int)<1)=false:=Xd aA;have Ae:decide ((12:Int)<(s.size:Int))=false:=Xd aA;have h0:0<s.size:=aA;have Cy:s.size<=12:=aA;clear h1 h2;rcases hK with⟨rfl,rfl⟩|⟨rfl,rfl⟩
     . go_in
       go_wp2_with fail;clear Jh Ae;go_loopw [5] (fun _ wr=>∃pos:Nat,pos<=s.size/\wr=w.iter s pos/\aCk fV s pos) (fun _ wr=>s.size-wr.iterPos w.heap.size)
       case atStart=>exact⟨0,by omega,rfl,aSj⟩
       case round=>
        obtain⟨pos,Cz,rfl,hrel⟩:=hrel;have HR:=Hd hrel;clear hrel;by_cases hp:pos<s.size
        . obtain⟨x,q,An,hx⟩:=aNo (P:=Tryz.prog) w s pos hp;have HX:=Hd hx;clear hx;have Aa:((pos:Int)==0)=decide (pos=0):=aQ7;generalize (pos:Int)=pi at An Aa;by_cases hz:pos=0
          . have Aa:(pi==0)=true:=by rw[Aa];exact Xc hz
            have HZ:=Hd hz;clear hz;by_cases Gh:fV x=true
            . by_cases Ef:cZ x=true
              . go_wp2_with (first|(go_at_call 160;refine(zZ x _).mono ?_;rintro e w' ⟨rfl,rfl⟩)|(go_at_call 195;refine(xK x _).mono ?_;rintro e w' ⟨rfl,rfl⟩));exact bH5
              . exact bHi
            . have Gh:fV x=false:=by simpa using Gh
              go_wp2_with (first|(go_at_call 160;refine(zZ x _).mono ?_;rintro e w' ⟨rfl,rfl⟩)|(go_at_call 195;refine(xK x _).mono ?_;rintro e w' ⟨rfl,rfl⟩));exact bDz
          . have Aa:(pi==0)=false:=by rw[Aa];exact Xd hz
            have HZ:=Hd hz;clear hz;by_cases Ef:cZ x=true
            . go_wp2_with (first|(go_at_call 160;refine(zZ x _).mono ?_;rintro e w' ⟨rfl,rfl⟩)|(go_at_call 195;refine(xK x _).mono ?_;rintro e w' ⟨rfl,rfl⟩));exact bHu
            . exact bHi
        . exact bHp
     . go_in
       go_wp2_with fail;clear Jh Ae;go_loopw [5] (fun _ wr=>∃pos:Nat,pos<=s.size/\wr=w.iter s pos/\aCk jZ s pos) (fun _ wr=>s.size-wr.iterPos w.heap.size)
       case atStart=>exact⟨0,by omega,rfl,aSj⟩
       case round=>
        obtain⟨pos,Cz,rfl,hrel⟩:=hrel;have HR:=Hd hrel;clear hrel;by_cases hp:pos<s.size
        . obtain⟨x,q,An,hx⟩:=aNo (P:=Tryz.prog) w s pos hp;have HX:=Hd hx;clear hx;have Aa:((pos:Int)==0)=decide (pos=0):=aQ7;generalize (pos:Int)=pi at An Aa;by_cases hz:pos=0
          . have Aa:(pi==0)=true:=by rw[Aa];exact Xc hz
            have HZ:=Hd hz;clear hz;by_cases Gh:jZ x=true
            . by_cases Ef:cZ x=true
              . go_wp2_with (first|(go_at_call 184;refine(aB4 x _).mono ?_;rintro e w' ⟨rfl,rfl⟩)|(go_at_call 195;refine(xK x _).mono ?_;rintro e w' ⟨rfl,rfl⟩));exact bH5
              . exact bHj
            . have Gh:jZ x=false:=by simpa using Gh
              go_wp2_with (first|(go_at_call 184;refine(aB4 x _).mono ?_;rintro e w' ⟨rfl,rfl⟩)|(go_at_call 195;refine(xK x _).mono ?_;rintro e w' ⟨rfl,rfl⟩));exact bDz
          . have Aa:(pi==0)=false:=by rw[Aa];exact Xd hz
            have HZ:=Hd hz;clear hz;by_cases Ef:cZ x=true
            . go_wp2_with (first|(go_at_call 184;refine(aB4 x _).mono ?_;rintro e w' ⟨rfl,rfl⟩)|(go_at_call 195;refine(xK x _).mono ?_;rintro e w' ⟨rfl,rfl⟩));exact bHu
            . exact bHj
        . exact bHp
end
section
open Go.RowKit
theorem kR(s:BA)(w:World)(hs:s.size<=9223372036854775807):
 Calls Tryz.prog 104 #[.string s] w fun e w'=>e=.returned (.bool (aQ s.data.toList))/\Below w.heap.size w w':=by
 by_cases h1:fA fV s.data.toList=true
 . have HE:=Hd (show(!bQ s.data.toList)=aQ s.data.toList by simp[aQ,h1]);go_in
   go_wp2_with fail;refine(aOe _ fV (.inl ⟨rfl,rfl⟩) s _ hs).mono ?_;rintro e w' ⟨rfl,hb⟩;have HB:=Hd hb;clear hb;go_wp2_with fail;refine(xS s _).mono ?_;rintro e w' ⟨rfl,rfl⟩;go_wp2_with fail;go_ret;exact⟨aO HE.o,HB.o⟩
 . have h1:fA fV s.data.toList=false:=by simpa using h1
   have HE:=Hd (show false=aQ s.data.toList by simp[aQ,h1]);go_in
   go_wp2_with fail;refine(aOe _ fV (.inl ⟨rfl,rfl⟩) s _ hs).mono ?_;exact bDe
theorem wD(s:BA)(w:World)(hs:s.size<=9223372036854775807):
 Calls Tryz.prog 139 #[.string s] w fun e w'=>e=.returned (.bool (dF s.data.toList))/\Below w.heap.size w w':=by
 have HE:=Hd (show fA jZ s.data.toList=dF s.data.toList from rfl);go_in
 go_wp2_with fail;refine(aOe _ jZ (.inr ⟨rfl,rfl⟩) s _ hs).mono ?_;rintro e w' ⟨rfl,hb⟩;have HB:=Hd hb;clear hb;go_wp2_with fail;go_ret;exact⟨aO HE.o,HB.o⟩
def inR(a b x:Int):Bool:=decide (a<=x/\x<=b)
theorem aF5(x a b:Int)(w:World):Calls Tryz.prog 175 #[.int .u8 x,.int .u8 a,.int .u8 b] w fun e w'=>e=.returned (.bool (inR a b x))/\w=w':=by
 by_cases h1:a<=x
 all_goals
  go_in
  go_wp2;go_ret;exact⟨aO (by rw[Zq];simp[inR,h1]<;>omega),rfl⟩
theorem aI0(x:Int)(w:World):Calls Tryz.prog 175 #[.int .u8 x,.int .u8 97,.int .u8 122] w fun e w'=>e=.returned (.bool (fV x))/\w=w':=aF5 x 97 122 w
theorem aOf(x:Int)(w:World):Calls Tryz.prog 175 #[.int .u8 x,.int .u8 65,.int .u8 90] w fun e w'=>e=.returned (.bool (jZ x))/\w=w':=aF5 x 65 90 w
theorem aI1(x:Int)(w:World):Calls Tryz.prog 175 #[.int .u8 x,.int .u8 48,.int .u8 57] w fun e w'=>e=.returned (.bool (cC x))/\w=w':=aF5 x 48 57 w
theorem aG9{s:BA}{k:Nat}(H:∀j (h:j<s.size),j<k->cZ ((s[j]'h).toNat:Int)=true)(Ah:k<s.size)(hx:cZ ((s[k]'Ah).toNat:Int)=true):
 ∀j (h:j<s.size),j<k+1->cZ ((s[j]'h).toNat:Int)=true:=fun j h hj=>by
 rcases Nat.lt_or_ge j k with h1|h1;· exact H j h h1
 . obtain rfl:j=k:=by omega
   exact hx
theorem aNp(a b:Int)(s:BA)(w:World)(hs:s.size<=9223372036854775807):
 Calls Tryz.prog 127 #[.string s,.int .u8 a,.int .u8 b] w fun e w'=>e=.returned (.bool (fA (inR a b) s.data.toList))/\w=w':=by
 by_cases h1:s.size<1
 . go_in
   go_wp2_with fail;go_ret;exact⟨aO (aHz (.inl h1)).symm,rfl⟩
 . by_cases h2:12<s.size
   . go_in
     go_wp2_with fail;go_ret;exact⟨aO (aHz (.inr h2)).symm,rfl⟩
   . have Jh:decide ((s.size:Int)<1)=false:=Xd aA;have Aq:decide ((12:Int)<(s.size:Int))=false:=Xd aA;have h0:0<s.size:=aA;have Cy:s.size<=12:=aA;clear h1 h2;by_cases hf:inR a b ((s[0]'h0).toNat:Int)=true
     . have HF:=Hd hf;go_in
       go_wp2_with fail;refine(aF5 _ a b _).mono ?_;rintro e w' ⟨rfl,rfl⟩;go_wp2_with fail;clear Jh Aq hf;go_loop [7] (fun i=>∃k:Nat,k<=s.size/\i=.int .i64 k/\∀j (h:j<s.size),j<k->cZ ((s[j]'h).toNat:Int)=true) (fun i=>s.size-(intOf i).toNat)
       case atStart=>exact⟨0,by omega,rfl,fun j _ hj=>absurd hj aA⟩
       case round=>
        obtain⟨k,hk,rfl,hrel⟩:=hrel;have HR:=Hd hrel;clear hrel;by_cases Ah:k<s.size
        . by_cases Gh:fV ((s[k]'Ah).toNat:Int)=true
          . go_wp2_with (go_at_call 175;refine(aI0 _ _).mono ?_;rintro e w' ⟨rfl,rfl⟩);go_round
            case rel=>exact⟨k+1,by omega,by go_num,aG9 HR.o Ah (by simp[cZ,Gh])⟩
            case measure=>simp[intOf];omega
          . have Gh:fV ((s[k]'Ah).toNat:Int)=false:=by simpa using Gh
            by_cases Ef:jZ ((s[k]'Ah).toNat:Int)=true
            . go_wp2_with (first|(go_at_call 175;(with_reducible refine(aI0 _ _).mono ?_);rintro e w' ⟨rfl,rfl⟩)|(go_at_call 175;(with_reducible refine(aOf _ _).mono ?_);rintro e w' ⟨rfl,rfl⟩));go_round
              case rel=>exact⟨k+1,by omega,by go_num,aG9 HR.o Ah (by simp[cZ,Ef])⟩
              case measure=>simp[intOf];omega
            . have Ef:jZ ((s[k]'Ah).toNat:Int)=false:=by simpa using Ef
              by_cases Aa:cC ((s[k]'Ah).toNat:Int)=true
              . go_wp2_with (first|(go_at_call 175;(with_reducible refine(aI0 _ _).mono ?_);rintro e w' ⟨rfl,rfl⟩)|(go_at_call 175;(with_reducible refine(aOf _ _).mono ?_);rintro e w' ⟨rfl,rfl⟩)|(go_at_call 175;(with_reducible refine(aI1 _ _).mono ?_);rintro e w' ⟨rfl,rfl⟩));go_round
                case rel=>exact⟨k+1,by omega,by go_num,aG9 HR.o Ah (by simp[cZ,Aa])⟩
                case measure=>simp[intOf];omega
              . have Aa:cC ((s[k]'Ah).toNat:Int)=false:=by simpa using Aa
                have HN:=Hd (show cZ ((s[k]'Ah).toNat:Int)=decide (((s[k]'Ah).toNat:Int)=95)by simp[cZ,Gh,Ef,Aa]);go_wp2_with (first|(go_at_call 175;(with_reducible refine(aI0 _ _).mono ?_);rintro e w' ⟨rfl,rfl⟩)|(go_at_call 175;(with_reducible refine(aOf _ _).mono ?_);rintro e w' ⟨rfl,rfl⟩)|(go_at_call 175;(with_reducible refine(aI1 _ _).mono ?_);rintro e w' ⟨rfl,rfl⟩))
                . have Bv:(((s[k]'Ah).toNat:Int) !=95)=true:=by assumption
                  have Bs:cZ ((s[k]'Ah).toNat:Int)=false:=by
                   rw[HN.o];exact Xd (by simpa using Bv)
                  go_ret;exact⟨aO (aIi Ah Bs).symm,rfl⟩
                . have Bv:(((s[k]'Ah).toNat:Int) !=95)=false:=by assumption
                  have Ae:cZ ((s[k]'Ah).toNat:Int)=true:=by
                   rw[HN.o];exact Xc (by simpa using Bv)
                  go_round
                  case rel=>exact⟨k+1,by omega,by go_num,aG9 HR.o Ah Ae⟩
                  case measure=>simp[intOf];omega
        . go_wp2_with fail;go_ret;exact⟨aO (aWm h0 Cy HF.o fun j h=>HR.o j h aA).symm,rfl⟩
     . have hf:inR a b ((s[0]'h0).toNat:Int)=false:=by simpa using hf
       go_in
       go_wp2_with fail;refine(aF5 _ a b _).mono ?_;rintro e w' ⟨rfl,rfl⟩;go_wp2_with fail;go_ret;exact⟨aO (aS7 h0 hf).symm,rfl⟩
theorem rV(s:BA)(w:World)(hs:s.size<=9223372036854775807):
 Calls Tryz.prog 67 #[.string s] w fun e w'=>e=.returned (.bool (aQ s.data.toList))/\Below w.heap.size w w':=by
 have HS:=Hd (show fA (inR 97 122) s.data.toList=fA fV s.data.toList from rfl);by_cases h1:fA fV s.data.toList=true
 . have HE:=Hd (show(!bQ s.data.toList)=aQ s.data.toList by simp[aQ,h1]);go_in
   go_wp2_with fail;refine(aNp 97 122 s _ hs).mono ?_;rw[HS.o];rintro e w' ⟨rfl,rfl⟩;go_wp2_with fail;refine(bVi s _).mono ?_;exact bDe
 . have h1:fA fV s.data.toList=false:=by simpa using h1
   have HE:=Hd (show false=aQ s.data.toList by simp[aQ,h1]);go_in
   go_wp2_with fail;refine(aNp 97 122 s _ hs).mono ?_;rw[HS.o];rintro e w' ⟨rfl,rfl⟩;go_wp2_with fail;go_ret;exact⟨aO HE.o,Yg _ _⟩
theorem aE5(s:BA)(w:World)(hs:s.size<=9223372036854775807):
 Calls Tryz.prog 68 #[.string s] w fun e w'=>e=.returned (.bool (dF s.data.toList))/\w=w':=by
 have HS:=Hd (show fA (inR 65 90) s.data.toList=dF s.data.toList from rfl);go_in
 go_wp2_with fail;refine(aNp 65 90 s _ hs).mono ?_;rw[HS.o];rintro e w' ⟨rfl,rfl⟩;go_wp2_with fail;go_ret;exact⟨rfl,rfl⟩
section
variable {s:BA}
theorem aIj(h:s.size<1\/3<s.size):kU s.data.toList=false:=by
 have:¬(1<=s.data.toList.length/\s.data.toList.length<=3):=aKr
 simp only[kU,Xd this,Bool.false_and]
theorem aUx(h:0<s.size)(hp:((s[0]'h).toNat:Int)=48):kU s.data.toList=false:=by
 obtain⟨F,e⟩:=tD h;have Aa:s[0]'h=48:=UInt8.toNat_inj.1 (by simpa using (by omega:(s[0]'h).toNat=48));rw[e];simp[kU,Aa]
theorem aOg{k:Nat}(h:k<s.size)(hp:cC ((s[k]'h).toNat:Int)=false):kU s.data.toList=false:=by
 have hm:s[k]'h∈s.data.toList:=bF8;cases hn:kU s.data.toList with
 |false=>rfl
 |true=>
  simp only[kU,Yu,Zj]at hn;rw[hn.2 _ hm]at hp;cases hp
theorem aYp(h1:0<s.size)(h2:s.size<=3)(hp:¬((s[0]'h1).toNat:Int)=48)(ha:∀k (h:k<s.size),cC ((s[k]'h).toNat:Int)=true):kU s.data.toList=true:=by
 have hz:=Zp s;have Aa:s.data.toList.all (fun c=>cC (c.toNat:Int))=true:=by
  exact bCn
 have Ae:decide (1<=s.data.toList.length/\s.data.toList.length<=3)=true:=Xc aA;obtain⟨F,e⟩:=tD h1;have Aq:¬s[0]'h1=48:=fun e=>hp (by rw[e];rfl);unfold kU;rw[Aa,Ae,e];simp[Aq]
end
theorem aSk{x:Int}(h:128<=x):cC x=false:=by
 simp[cC];omega
def aAh(s:BA)(pos:Nat):Prop:=∀k (h:k<s.size),k<pos->cC ((s[k]'h).toNat:Int)=true
theorem aSl{s:BA}:aAh s 0:=fun k h hk=>absurd hk aA
theorem aSm{s:BA}{k:Nat}(H:aAh s k)(Ah:k<s.size)(hx:cC ((s[k]'Ah).toNat:Int)=true):aAh s (k+1):=fun j h hj=>by
 exact bDl
theorem aSn{s:BA}{pos q:Nat}{x:Int}(H:aAh s pos)(hp:pos<s.size)(hx:(x=((s[pos]'hp).toNat:Int)/\q=pos+1)\/(128<=x/\128<=(s[pos]'hp).toNat/\pos<q))
 (h2:cC x=true):q<=s.size/\aAh s q:=by
 rcases hx with⟨rfl,rfl⟩|⟨h,_,_⟩;· exact⟨by omega,aSm H hp h2⟩
 . rw[aSk h]at h2;cases h2
theorem bLa{s:BA}{pos q:Nat}{x:Int}(hp:pos<s.size)(hx:(x=((s[pos]'hp).toNat:Int)/\q=pos+1)\/(128<=x/\128<=(s[pos]'hp).toNat/\pos<q))(h2:cC x=false):kU s.data.toList=false:=by
 rcases hx with⟨rfl,rfl⟩|⟨_,h,_⟩;· exact aOg hp h2
 . exact aOg hp (aSk aA)
theorem bQ9(s:BA)(w:World)(hs:s.size<=9223372036854775807):
 Calls Tryz.prog 217 #[.string s] w fun e w'=>e=.returned (.bool (kU s.data.toList))/\Below w.heap.size w w':=by
 by_cases h1:s.size<1
 . go_in
   go_wp2_with fail;go_ret;exact⟨aO (aIj (.inl h1)).symm,Yg _ _⟩
 . by_cases h2:3<s.size
   . go_in
     go_wp2_with fail;go_ret;exact⟨aO (aIj (.inr h2)).symm,Yg _ _⟩
   . have Jh:decide ((s.size:Int)<1)=false:=Xd aA;have Ae:decide ((3:Int)<(s.size:Int))=false:=Xd aA;have h0:0<s.size:=aA;have h3:s.size<=3:=aA;clear h1 h2;by_cases hf:((s[0]'h0).toNat:Int)=48
     . have HF:=Hd hf;have Aa:(((s[0]'h0).toNat:Int)==48)=true:=wW;clear hf;go_in
       go_wp2_with fail;go_ret;exact⟨aO (aUx h0 HF.o).symm,Yg _ _⟩
     . have HF:=Hd hf;have Aa:(((s[0]'h0).toNat:Int)==48)=false:=wW;clear hf;go_in
       go_wp2_with fail;clear Jh Ae Aa;go_loopw [4] (fun _ wr=>∃pos:Nat,pos<=s.size/\wr=w.iter s pos/\aAh s pos) (fun _ wr=>s.size-wr.iterPos w.heap.size)
       case atStart=>exact⟨0,by omega,rfl,aSl⟩
       case round=>
        obtain⟨pos,Cz,rfl,hrel⟩:=hrel;have HR:=Hd hrel;clear hrel;by_cases hp:pos<s.size
        . obtain⟨x,q,An,hx⟩:=aNo (P:=Tryz.prog) w s pos hp;have HX:=Hd hx;clear hx;by_cases Ef:cC x=true
          . go_wp2_with (go_at_call 228;refine(aNn x _).mono ?_;rintro e w' ⟨rfl,rfl⟩);go_roundw;case rel=>exact⟨q,(aSn HR.o hp HX.o Ef).1,rfl,(aSn HR.o hp HX.o Ef).2⟩
            case measure=>simp;have:=aMc hp HX.o;omega
          . have Ef:cC x=false:=by simpa using Ef
            go_wp2_with (go_at_call 228;refine(aNn x _).mono ?_;rintro e w' ⟨rfl,rfl⟩);go_ret;exact⟨aO (bLa hp HX.o Ef).symm,aBk _ _ _⟩
        . have An:∀ty,(Instr.next (.pointer (some ⟨w.heap.size,0,none⟩)) true ty).run Tryz.prog (w.iter s pos)=_:=fun ty=>run_next_end w s pos ty hp;go_wp2_with fail;go_ret;exact⟨aO (aYp h0 h3 HF.o fun k h=>HR.o k h aA).symm,aBk _ _ _⟩
end
section
open Go.RowKit
theorem aUy{c:UInt8}{s a b:BA}{f:Bool}(hf:f=false->s.data.toList=a.data.toList)(ht:f=true->s.data.toList=a.data.toList++c::b.data.toList):
 a.size<=s.size/\(f=true->b.size<s.size):=by
 have h1:=Zp s;have h2:=Zp a;have h3:=Zp b;cases f with
 |false=>have:=hf rfl;rw[<-this]at h2;exact⟨by omega,fun h=>by cases h⟩
 |true=>
  have:=congrArg List.length (ht rfl)
  simp only[Yo,Yq]at this;exact⟨by omega,fun _=>by omega⟩
theorem bAn(s:BA)(w:World)(hs:s.size<=9223372036854775806):
 Calls Tryz.prog 187 #[.string s] w fun e w'=>e=.returned (.bool (gQ s.data.toList))/\Below w.heap.size w w':=by
 go_in
 go_wp2_with fail;refine(aIz s 46 _ hs).mono ?_;rintro e w1 ⟨a,b,f,rfl,hb,hc,hf,ht⟩;have Au:=aUy hf ht;have HB:=Hd hb;clear hb;by_cases hl:aQ a.data.toList=true
 . cases f with
   |false=>
    have HE:=Hd (show true=gQ s.data.toList by rw[hf rfl,aS4 hc,hl]);exact bHs
   |true=>
    have HE:=Hd (show kU b.data.toList=gQ s.data.toList by rw[ht rfl,aWk hc,hl];rfl);clear hf ht hc;have ha:=Au.1;have Kf:=Au.2 rfl;clear Au;go_wp2_with fail;refine(kR a _ aA).mono ?_;rintro e w2 ⟨rfl,hb⟩;have Ai:=Hd (zI HB.o hb);clear hb;go_wp2_with fail;refine(bQ9 b _ aA).mono ?_;rintro e w3 ⟨rfl,hb⟩;have Aj:=Hd (zI Ai.o hb);clear hb;go_wp2_with fail;go_ret;exact⟨aO HE.o,Aj.o⟩
 . have hl:aQ a.data.toList=false:=by simpa using hl
   have HE:Hid (false=gQ s.data.toList):=by
    refine Hd ?_;cases f with
    |false=>rw[hf rfl,aS4 hc,hl]
    |true=>rw[ht rfl,aWk hc,hl];rfl
   exact bHs
def bIi:Value->Nat
 |.string s=>s.size
 |_=>0
theorem aOh(s:BA)(w:World)(hs:s.size<=9223372036854775806):
 Calls Tryz.prog 141 #[.string s] w fun e w'=>e=.returned (.bool (fJ s.data.toList))/\Below w.heap.size w w':=by
 go_in
 go_wp2_with fail;go_loopw [0] (fun v wr=>∃t:ByteArray,v=.string t/\t.size<=s.size/\fJ s.data.toList=fJ t.data.toList/\Below w.heap.size w wr) (fun v _=>bIi v)
 case atStart=>exact⟨s,rfl,Yh _,rfl,Yg _ _⟩
 case round=>
  obtain⟨t,rfl,Aq,Ae,Aa⟩:=hrel;have HP:=Hd Ae;have Cd:=Hd Aa;clear Ae Aa;go_wp2_with fail;refine(aIz t 47 _ aA).mono ?_;rintro e w1 ⟨a,b,f,rfl,hb,hc,hf,ht⟩;have Au:=aUy hf ht;have HB:=Hd (Cd.o.tr hb);clear hb;have ha:=Au.1;by_cases hl:gQ a.data.toList=true
  . cases f with
    |false=>
     have HE:=Hd (show true=fJ s.data.toList by rw[HP.o,hf rfl,aMb hc,hl]);exact bH1
    |true=>
     have HE:=Hd (show fJ s.data.toList=fJ b.data.toList by rw[HP.o,ht rfl,aYm hc,hl];rfl);have Kf:=Au.2 rfl;clear hf ht hc Au;go_wp2_with fail;refine(bAn a _ aA).mono ?_;rintro e w2 ⟨rfl,hb⟩;have Ai:=Hd (HB.o.tr hb);clear hb;go_wp2_with fail;go_roundw;case rel=>exact⟨b,rfl,by omega,HE.o,Ai.o⟩
     case measure=>simp[bIi];omega
  . have hl:gQ a.data.toList=false:=by simpa using hl
    have HE:Hid (false=fJ s.data.toList):=by
     refine Hd ?_;rw[HP.o];cases f with
     |false=>rw[hf rfl,aMb hc,hl]
     |true=>rw[ht rfl,aYm hc,hl];rfl
    exact bH1
end
section
open Go.RowKit Go.Maps Go.WideMaps
theorem aOi:Keyed Tryz.prog 9:=string_keyed Tryz.underlying9
theorem aWn(w:World):(zeroValue 210).run Tryz.prog w=.ok (.agg #[]) w:=aE
def xU(ss:LB)(k:Nat):DataW Unit:=setOf (.agg []) ((ss.take k).map fun s=>Lit.string s.data.toList)
def wE(ss:LB)(k:Nat):Prop:=((ss.take k).map fun s=>s.data.toList).Nodup
def uN(ss:LB)(k:Nat):Bool:=decide ((ss[k]?.getD ByteArray.empty).data.toList∈(ss.take k).map fun s=>s.data.toList)
def dC(ss:LB):Bool:=aJ7 (ss.map fun s=>s.data.toList)
theorem bJ4(ss:LB):xU ss 0=.map []:=by simp[xU,setOf]
theorem aLx{ss:LB}{k:Nat}(h:k<ss.length):ss.take (k+1)=ss.take k++[ss[k]?.getD ByteArray.empty]:=by
 exact bEd
theorem bJ5(ss:LB)(k:Nat)(h:k<ss.length):xU ss (k+1)=(xU ss k).put (.string (ss[k]?.getD ByteArray.empty).data.toList) (.agg []):=by
 unfold xU;rw[aLx h,Zt];exact setOf_snoc _ _ _
theorem aS9(x:LU):∀l:List ByteArray,(l.map fun s=>Lit.string s.data.toList).any (fun y=>y.sameKey (.string x))=decide (x∈l.map fun s=>s.data.toList)
 |[]=>rfl
 |a::r=>by
  have e:(Lit.string a.data.toList).sameKey (.string x)=(a.data.toList==x):=rfl;rw[Xl,List.any_cons,aS9 x r,Xl,e,Zq];simp only[Bool.or_eq_true,beq_iff_eq,decide_eq_true_eq,Yw];exact⟨fun h=>h.imp Eq.symm id,fun h=>h.imp Eq.symm id⟩
theorem bLb(ss:LB)(k:Nat):Maps.has (xU ss k) (.string (ss[k]?.getD ByteArray.empty).data.toList)=uN ss k:=by
 unfold xU uN;rw[has_setOf _ _ _ (fun y hy=>by obtain⟨_,_,rfl⟩:=List.mem_map.1 hy;trivial),aS9]
theorem aSo(ss:LB):wE ss 0:=by simp[wE]
theorem aSp{ss:LB}{k:Nat}(H:wE ss k)(h:k<ss.length)(hn:uN ss k=false):wE ss (k+1):=by
 unfold wE at H⊢;rw[aLx h,Zt,List.nodup_append];refine⟨H,by simp,fun a ha b hb=>?_⟩;simp at hb;subst hb;intro e;subst e;simp only[uN,decide_eq_false_iff_not]at hn;exact hn ha
theorem aTa{ss:LB}{k:Nat}(H:wE ss k)(h:ss.length<=k):dC ss=true:=by
 unfold wE at H;rw[Yz h]at H;exact Xc H
theorem aTb{ss:LB}{k:Nat}(h:k<ss.length)(hn:uN ss k=true):dC ss=false:=by
 simp only[uN,decide_eq_true_eq]at hn;unfold dC aJ7;refine Xd fun hd=>?_;have e:ss=ss.take k++ss.drop k:=(List.take_append_drop k ss).symm;rw[e,Zt,List.nodup_append]at hd;have hm:(ss[k]?.getD ByteArray.empty)∈ss.drop k:=by
  rw[Yk h,Yv,List.drop_eq_getElem_cons h];exact aC6
 exact hd.2.2 _ hn _ (List.mem_map.2 ⟨_,hm,rfl⟩) rfl
theorem aCl(A:OA)(n c:Nat)(ss:LB)(w:World)(h:aS w A n ss)(hz:∀s∈ss,s.size<=maxLen)(hn:n<=100):
 Calls Tryz.prog 112 #[.slice A n c] w fun e w'=>e=.returned (.bool (dC ss))/\Below w.heap.size w w':=by
 have Nh:=@run_makeMap Tryz.prog;have HL:=Hd h.len;go_in
 go_wp2_with fail;go_loopw [11] (fun i wr=>∃k:Nat,k<=n/\i=.int .i64 k/\wr.ownsMap Tryz.prog 9 unitElem w.heap.size k (xU ss k)/\Below w.heap.size w wr/\w.heap.size+1<=wr.heap.size/\wE ss k)
  (fun i _=>n-(intOf i).toNat)
 case atStart=>exact⟨0,Ys _,rfl,by rw[bJ4];exact World.ownsMap_made _ _ _ _,(Yg _ _).alloc (Yh _) _,by simp,aSo _⟩
 case round=>
  obtain⟨k,hk,rfl,Ao,An,Ng,Aq⟩:=hrel;have HO:=Hd Aq;clear Aq;by_cases Ah:k<n
  . obtain⟨b,off,rfl,hb,hc⟩:=h.at_ Ah;have Jx:wr.cell? ⟨b,off+k,none⟩=some (.string (ss[k]?.getD ByteArray.empty)):=(An.cell hb).trans (hc k Ah);have Hn:k<ss.length:=aGj;have HS:=Hd (bJ5 ss k Hn);have Fs:=bLb ss k;have Hc:(ss[k]?.getD ByteArray.empty).size<=maxLen:=hz _ (by rw[Yk Hn];exact Zk _);clear hc hz;generalize hx:ss[k]?.getD ByteArray.empty=x at Jx Hc Fs HS;have Ct:keyOf Tryz.prog 9 (.string x)=some (.string x.data.toList):=keyOf_string_mk Tryz.underlying9 Hc;have Hb:=Hd Hn;clear hx Hn;have Hn:k<maxLen:=fZ;by_cases Ae:uN ss k=true
    . have Ha:=Hd Ae;rw[Ae]at Fs;clear Ae;go_wp2_with (at_lookup;refine wpList_lookup_own_unit _ rfl _ _ 209 rfl 9 210 aOi Tryz.underlying209 (aWn _) w.heap.size k _ rfl Ao _ _ rfl Ct ?_);go_ret;exact⟨aO (aTb Hb.o Ha.o).symm,An.alloc An.size _⟩
    . have Ae:uN ss k=false:=by simpa using Ae
      have Ha:=Hd Ae;rw[Ae]at Fs;clear Ae
      go_wp2_with (first
       |(at_lookup;refine wpList_lookup_own_unit _ rfl _ _ 209 rfl 9 210 aOi Tryz.underlying209 (aWn _) w.heap.size k _ rfl Ao _ _ rfl Ct ?_)
       |(at_mapUpdate;refine wpList_mapUpdate_own _ rfl _ _ _ 209 rfl 9 210 aOi Tryz.underlying209 (unitElem (H:=Unit)) w.heap.size k _ rfl (Ao.alloc _) Hn _ _ _ rfl rfl Ct _ [] unitElem_mk ?_;intro w1 Bs Aa))
      have HW:=Hd Bs;have HG:=Hd Aa;have s1:=Aa.size;simp at s1;clear Bs Aa;go_roundw;case rel=>
       refine⟨k+1,by omega,by go_num,?_,?_,by omega,aSp HO.o Hb.o Ha.o⟩
       . rw[HS.o];exact HW.o
       . exact(An.alloc An.size _).grown HG.o cP (fun j hj=>by cases hj;exact Yh _)
      case measure=>simp[intOf];omega
  . go_wp2_with fail;go_ret;exact⟨aO (aTa HO.o aO8).symm,An⟩
end
section
open Go.RowKit
def aYq(ss:LB)(x:BA)(j:Nat):Prop:=∀i,i<j->((ss[i]?.getD ByteArray.empty).toList==x.toList)=false
theorem bLc{ss:LB}{k:Nat}(h:k<ss.length)(H:aYq ss (ss[k]?.getD ByteArray.empty) k):uN ss k=false:=by
 refine Xd fun hm=>?_;obtain⟨y,hy,e⟩:=List.mem_map.1 hm;obtain⟨i,hi,ey⟩:=Zm hy;rw[List.length_take]at hi;have h1:=H i aA;rw[List.getElem_take]at ey;rw[Yk (show i<ss.length by omega),Yv,ey,Zf,Zf,e]at h1;simp at h1
theorem bLd{ss:LB}{i k:Nat}(h:k<ss.length)(hi:i<k)(he:((ss[i]?.getD ByteArray.empty).toList==(ss[k]?.getD ByteArray.empty).toList)=true):uN ss k=true:=by
 refine Xc (List.mem_map.2 ⟨ss[i]?.getD ByteArray.empty,?_,?_⟩)
 . rw[Yk (show i<ss.length by omega),Yv];exact List.mem_take_iff_getElem.2 ⟨i,by omega,rfl⟩
 . rw[Zf,Zf]at he;exact beq_iff_eq.1 he
theorem aB5(A:OA)(n c:Nat)(ss:LB)(w:World)(h:aS w A n ss)(hn:n<=100):
 Calls Tryz.prog 30 #[.slice A n c] w fun e w'=>e=.returned (.bool (dC ss))/\∃m,w'=w.drewN m:=by
 have HL:=Hd h.len;go_in
 go_wp2_with fail;go_loopw [3] (fun i wr=>∃k:Nat,k<=n/\i=.int .i64 k/\(∃m,wr=w.drewN m)/\wE ss k) (fun i _=>n-(intOf i).toNat)
 case atStart=>exact⟨0,Ys _,rfl,⟨0,rfl⟩,aSo _⟩
 case round=>
  obtain⟨k,hk,rfl,⟨m,rfl⟩,Aa⟩:=hrel;have HO:=Hd Aa;clear Aa;by_cases Ah:k<n
  . obtain⟨b,off,rfl,hb,hc⟩:=h.at_ Ah;have Hn:k<ss.length:=aGj;have Ha:=hc k Ah;generalize hx:ss[k]?.getD ByteArray.empty=x at Ha;have HX:=Hd hx;have Ae:=Hd Hn;have HC:=Hd hc;clear hx Hn hc;go_wp2_with fail;go_loopw [4] (fun j wr=>∃i:Nat,i<=k/\j=.int .i64 i/\(∃m,wr=w.drewN m)/\aYq ss x i) (fun j _=>k-(intOf j).toNat)
    case atStart=>exact⟨0,Ys _,rfl,⟨_,rfl⟩,fun i hi=>absurd hi aA⟩
    case round=>
     obtain⟨i,hi,rfl,⟨m2,rfl⟩,Bs⟩:=hrel;have Aq:=Hd Bs;clear Bs;by_cases Ct:i<k
     . have Fs:=HC.o i aA;generalize hy:ss[i]?.getD ByteArray.empty=y at Fs;have HY:=Hd hy;clear hy;by_cases he:(y.toList==x.toList)=true
       . have HE:=Hd he;go_wp2_with fail;go_quiet (fail);go_wp2_with fail;go_ret;refine⟨aO ?_,_,World.drewN_drewN _ _ _⟩;exact(aTb Ae.o (bLd Ae.o Ct (by rw[HX.o,HY.o];exact HE.o))).symm
       . have he:(y.toList==x.toList)=false:=by simpa using he
         have HE:=Hd he;go_wp2_with fail;go_quiet (fail);go_wp2_with fail;go_roundw;case rel=>
          refine⟨i+1,by omega,by go_num,⟨_,rfl⟩,fun j hj=>?_⟩;rcases Nat.lt_or_ge j i with h1|h1;· exact Aq.o j h1
          . obtain rfl:j=i:=by omega
            rw[HY.o];exact HE.o
         case measure=>simp[intOf];omega
     . go_wp2_with fail;go_roundw;case rel=>
        refine⟨k+1,by omega,by go_num,⟨_,rfl⟩,aSp HO.o Ae.o (bLc Ae.o ?_)⟩;rw[HX.o];exact fun j hj=>Aq.o j aA
       case measure=>simp[intOf];omega
  . go_wp2_with fail;go_ret;exact⟨aO (aTa HO.o aO8).symm,_,rfl⟩
end
inductive Ex where
 |mk (k n:Int) (s:BA) (op:Int) (arms:LB) (subs:List Ex)
def Ex.k:Ex->Int|.mk k _ _ _ _ _=>k
def Ex.n:Ex->Int|.mk _ n _ _ _ _=>n
def Ex.s:Ex->ByteArray|.mk _ _ s _ _ _=>s
def Ex.op:Ex->Int|.mk _ _ _ op _ _=>op
def Ex.arms:Ex->List ByteArray|.mk _ _ _ _ a _=>a
def Ex.subs:Ex->List Ex|.mk _ _ _ _ _ l=>l
instance :Inhabited Ex:=⟨.mk 0 0 ByteArray.empty 0 [] []⟩
theorem Ex.eta(x:Ex):Ex.mk x.k x.n x.s x.op x.arms x.subs=x:=by cases x;rfl
mutual
def aT:Ex->Nat
 |.mk _ _ _ _ _ l=>1+bW l
def bW:List Ex->Nat
 |[]=>0
 |x::l=>aT x+bW l
end
mutual
def gC:Ex->Nat
 |.mk _ _ _ _ _ l=>kY l+1
def kY:List Ex->Nat
 |[]=>0
 |x::l=>max (gC x) (kY l)
end
mutual
def bP:Ex->List Ex
 |.mk k n s op a l=>.mk k n s op a l::eL l
def eL:List Ex->List Ex
 |[]=>[]
 |x::l=>bP x++eL l
end
theorem uG(x:Ex):aT x=1+bW x.subs:=by cases x;simp only[aT,Ex.subs]
theorem aHj(x:Ex):gC x=kY x.subs+1:=by cases x;simp only[gC,Ex.subs]
theorem aBq(x:Ex):bP x=x::eL x.subs:=by cases x;simp only[bP,Ex.subs]
theorem aBl(a b:List Ex):bW (a++b)=bW a+bW b:=by
 induction a with
 |nil=>simp[bW]
 |cons x a ih=>simp[bW,ih];omega
theorem aSq(a b:List Ex):eL (a++b)=eL a++eL b:=by
 induction a with
 |nil=>simp[eL]
 |cons x a ih=>simp[eL,ih]
theorem bJ6(a b:List Ex):kY (a++b)=max (kY a) (kY b):=by
 induction a with
 |nil=>simp[kY]
 |cons x a ih=>simp only[Yx,kY,ih];omega
theorem vW(x:Ex):0<aT x:=by rw[uG];omega
theorem aBr{l:List Ex}{x:Ex}(h:x∈l):aT x<=bW l:=by
 induction l with
 |nil=>cases h
 |cons y l ih=>
  simp only[bW];rcases Yw.1 h with rfl|h;· omega
  . have:=ih h;omega
theorem aEu{x y:Ex}(h:y∈x.subs):aT y<aT x:=by
 have:=aBr h
 rw[uG x];omega
theorem aEk(l:List Ex)(k:Nat):bW (l.take k)<=bW l:=by
 have:=aBl (l.take k) (l.drop k)
 rw[List.take_append_drop]at this;omega
theorem aUz(l:List Ex):l.length<=bW l:=by
 induction l with
 |nil=>simp[bW]
 |cons x l ih=>have:=vW x;simp[bW];omega
mutual
theorem aEl:∀x:Ex,(bP x).length=aT x
 |.mk k n s op a l=>by simp only[bP,aT,Yq,aLo l];omega
theorem aLo:∀l:List Ex,(eL l).length=bW l
 |[]=>rfl
 |x::l=>by simp only[eL,bW,Yo,aEl x,aLo l]
end
mutual
theorem aEm:∀x:Ex,gC x<=aT x
 |.mk k n s op a l=>by simp only[gC,aT];have:=aSr l;omega
theorem aSr:∀l:List Ex,kY l<=bW l
 |[]=>Yh _
 |x::l=>by simp only[kY,bW];have:=aEm x;have:=aSr l;omega
end
def bI(x:Ex)(i:Nat):Ex:=x.subs[i]?.getD default
theorem zS{x:Ex}{i:Nat}(h:i<x.subs.length):bI x i∈x.subs:=by
 unfold bI;exact aJz
theorem aMd{x:Ex}{i:Nat}(h:i<x.subs.length):x.subs.take (i+1)=x.subs.take i++[bI x i]:=by
 unfold bI;exact bEd
theorem aHa{x:Ex}{i:Nat}(h:i<x.subs.length):bW (x.subs.take (i+1))=bW (x.subs.take i)+aT (bI x i):=by
 rw[aMd h,aBl];simp[bW]
theorem aSs{x:Ex}{i:Nat}(h:i<x.subs.length):kY (x.subs.take (i+1))=max (kY (x.subs.take i)) (gC (bI x i)):=by
 rw[aMd h,bJ6];simp[kY]
theorem aSt{x:Ex}{i:Nat}(h:i<x.subs.length):eL (x.subs.take (i+1))=eL (x.subs.take i)++bP (bI x i):=by
 rw[aMd h,aSq];simp[eL]
theorem tB{P:Ex->Prop}(h:∀x,(∀i,i<x.subs.length->P (bI x i))->P x):∀x,P x:=by
 have:∀n x,aT x<=n->P x:=by
  intro n;induction n with
  |zero=>intro x hx;have:=vW x;omega
  |succ n ih=>
   intro x hx;refine h x fun i hi=>ih _ ?_
   have:=aEu (zS hi)
   omega
 exact fun x=>this _ x (Yh _)
section
open Go.RowKit
def jD(a b:LB):Bool:=decide (a.map (fun s=>s.toList)=b.map (fun s=>s.toList))
def aFh(a b:LB)(k:Nat):Prop:=∀j,j<k->((a[j]?.getD ByteArray.empty).toList==(b[j]?.getD ByteArray.empty).toList)=true
section
variable {a b:LB}{k:Nat}
theorem bNo(h:a.length≠b.length):jD a b=false:=Xd fun e=>h (by simpa using congrArg List.length e)
theorem bRa(ha:k<a.length)(hb:k<b.length)(h:((a[k]?.getD ByteArray.empty).toList==(b[k]?.getD ByteArray.empty).toList)=false):jD a b=false:=Xd fun e=>by
 have h1:=congrArg (fun l=>l[k]?) e;simp only[List.getElem?_map,Yk ha,Yk hb,Option.map_some,Option.some.injEq]at h1;rw[Yk ha,Yk hb,Yv,Yv,h1]at h;simp at h
theorem bNp(hl:a.length=b.length)(H:aFh a b k)(h:a.length<=k):jD a b=true:=Xc (by
 apply List.ext_getElem;· simpa using hl
 . intro i h1 h2;rw[List.length_map]at h1 h2
   have:=H i aA
   rw[Yk h1,Yk h2,Yv,Yv]at this;simpa using this)
theorem bJ7(H:aFh a b k)(h:((a[k]?.getD ByteArray.empty).toList==(b[k]?.getD ByteArray.empty).toList)=true):aFh a b (k+1):=fun j hj=>by
 exact aPr
end
theorem aEv(A B:OA)(n m c d:Nat)(ss tt:LB)(w:World)(hs:aS w A n ss)(ht:aS w B m tt):
 Calls Tryz.prog 62 #[.slice A n c,.slice B m d] w fun r w'=>r=.returned (.bool (jD ss tt))/\Below w.heap.size w w':=by
 have h1:=hs.len;have h2:=ht.len;have h3:=hs.max;have h4:=ht.max;by_cases Aa:n=m
 . subst Aa;go_in
   go_wp2_with fail;go_loopw [5] (fun i wr=>∃k:Nat,k<=n/\i=.int .i64 k/\aFh ss tt k/\∃p,wr=w.drewN p) (fun i _=>n-(intOf i).toNat)
   case atStart=>exact⟨0,Ys _,rfl,fun j hj=>absurd hj aA,0,rfl⟩
   case round=>
    exact fK5
 . exact bH3
end
section
open Go.RowKit
theorem Rd.lit(k:IntKind)(w:World)(T:TypeId)(l:List Int)(n:Nat)(hn:l.length=n)(hm:n<=9223372036854775807)(Aa:∀z∈l,(Lit.int k z).wf=true)(cs:AV)(hcs:cs=(l.map (Value.int k)).toArray):
 Rd k (w.alloc (.cells cs T)) (some ⟨w.heap.size,0,none⟩) n n l:=by
 subst hcs hn;refine⟨rfl,Yh _,by unfold maxLen;omega,Aa,fun _=>⟨_,_,rfl,by simp,fun i hi=>?_⟩⟩;rw[Nat.zero_add,Zs];simp[Yk hi]
section
variable {P:Program}{w:World}
theorem aLi(base:Nat)(t ty e:TypeId)(i:TypeInfo)(size:Nat)(ht:P.underlying t=some (.slice e))(hi:P.info? e=some i)
 (v:Value)(n:Nat)(xs:LV)(Ao:w.ownsRow base e size v n xs)(c:Nat):(Builtin.append_ #[t,t] ty #[v,.slice none 0 c]).run P w=.ok v w:=by
 rcases Ao.2 with⟨rfl,rfl⟩|⟨g,cap,cur,rfl,_,_,hnc,_⟩;· simp[Builtin.append_,run_underlying ht,sizeOf,typeInfo,hi,Builtin.lenOf,Builtin.firstCells]
 . simp[Builtin.append_,run_underlying ht,sizeOf,typeInfo,hi,Builtin.lenOf,Builtin.firstCells,hnc,storeCells]
end
end
end Go.Proofs.YtagkcjpoipcpkaaGreatDoor
