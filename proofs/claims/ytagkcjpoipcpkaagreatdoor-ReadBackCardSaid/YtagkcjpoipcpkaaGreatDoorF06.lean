/- A part of the proof. Conditions: each theorem's own. -/
import Derived.Test.YtagkcjpoipcpkaaGreatDoorF02
namespace Go.Proofs.YtagkcjpoipcpkaaGreatDoor
set_option linter.unusedVariables false
set_option linter.unusedSimpArgs false
set_option maxRecDepth 100000
set_option maxHeartbeats 40000000
section
open Go.RowKit
theorem aMi{w:World}{base:Nat}{e:TypeId}{size:Nat}{v:Value}{n:Nat}{xs:LV}(h:w.ownsRow base e size v n xs):∃A c,v=.slice A n c:=by
 exact aPu
theorem zG{P:Program}{w:World}{Aa:Array Oper}{o:Oper}{a:Act}{K:Act->World->Prop}{Q:Exit->Act->World->Prop}{E:Prop}(Ae:o.guard=none)(s x:Operand)(t:TypeId)
 (ho:o.op=.call { callee:=.builtin .append,args:=#[s,x],argTypes:=#[t,t] })
 (base:Nat)(e:TypeId)(i:TypeInfo)(z:Value)(size Dh:Nat)(ht:P.underlying t=some (.slice e))(hi:P.info? e=some i)(hz:i.zero=some z)
 (Gk:i.size=size)(La:i.bytes=Dh)(Kd:z.cells.size=size)(Au:0<size)
 (v:Value)(n:Nat)(xs:LV)(hs:a.eval s=v)(Ao:w.ownsRow base e size v n xs)
 (A:OA)(m c:Nat)(news:LV)(hx:a.eval x=.slice A m c)(hl:news.length=m*size)(hA:A=none->m=0)(Ii:∀ad,A=some ad->∀j u,news[j]?=some u->w.cell? (ad.add j)=some u)(h1:∀u∈news,u.oneCell'=true)
 (Lc:n+m<=maxLen)(Fg:(n+m)*Dh<=140737488355328)(Et:base<=w.heap.size)
 (h:∀A' c' w',w'.ownsRow base e size (.slice A' (n+m) c') (n+m) (xs++news)->w.grownBy w' v.ownBlock->((Value.slice A' (n+m) c').ownBlock=v.ownBlock\/(Value.slice A' (n+m) c').ownBlock=some w.heap.size)->K (a.put o.dst (.slice A' (n+m) c')) w'):
 if Region.wanted o (yielded Aa a.tmps)=true then Oper.wp P o a w K Q else E:=by
 have hw:Region.wanted o (yielded Aa a.tmps)=true:=by simp[Region.wanted,Ae]
 rw[if_pos hw];cases A with
 |none=>
  exact bGw
 |some ad=>
  exact bG1
theorem aM5(g o k:Nat):(⟨g,o,none⟩:Addr).add k=⟨g,o+k,none⟩:=aGg
end
def jS(n:Int):Bool:=fV n || jZ n
def aAj(c:UInt8):Bool:=c==9 || c==10 || c==13 || c==32
def aQd(l:LU):List UInt8:=l.takeWhile fun c=>c !=10
def dJ(l:LU):Nat:=
 if [45,45].isPrefixOf l=true then(aQd l).length else match l with
  |[]=>0
  |c::_=>if aAj c=true then 1 else 0
def bO(l:LU):List UInt8:=l.takeWhile fun c=>cZ (c.toNat:Int)
def dR(l:LU):List UInt8:=l.takeWhile fun c=>cC (c.toNat:Int)
def aC8(l:LU):List UInt8:=l.takeWhile fun c=>c !=39
def jH(l:LU):Nat:=l.foldl (fun a c=>a*10+(c.toNat-48)) 0
def iD:List (List UInt8):=[[58,61],[45,62],[60,61],[62,61],[60,62],[40],[41],[123],[125],[91],[93],[44],[59],[58],[61],[60],[62],[43],[45],[42],[47]]
def sE(l:LU):Option (List UInt8):=iD.find? fun m=>m.isPrefixOf l
structure Tk where
 k:Int
 s:List UInt8
 n:Int
 a:Nat
instance :Inhabited Tk:=⟨⟨0,[],0,0⟩⟩
def iP(l:LU):Option (Tk × Nat):=
 if(aQ (bO l) || bQ (bO l))=true then some (⟨1,bO l,0,0⟩,(bO l).length)
 else if dF (bO l)=true then some (⟨2,bO l,0,0⟩,(bO l).length)else none
def kD(l:LU):Option (Tk × Nat):=
 if(1<(dR l).length/\l.head?=some 48)\/9223372036854775807<jH (dR l)then none
 else some (⟨3,dR l,jH (dR l),0⟩,(dR l).length)
def nU(l:LU):Option (Tk × Nat):=
 if(aC8 l).length<l.length/\fJ (aC8 l)=true then some (⟨4,aC8 l,0,0⟩,(aC8 l).length+2)else none
def pM(l:LU):Option (Tk × Nat):=(sE l).map fun m=>(⟨5,m,0,0⟩,m.length)
def gV:List UInt8->Option (Tk × Nat)
 |[]=>none
 |c::l=>if jS (c.toNat:Int)=true then iP (c::l)else if cC (c.toNat:Int)=true then kD (c::l)else if c=39 then nU l else pM (c::l)
theorem rP(c:UInt8)(l:LU):gV (c::l)=if jS (c.toNat:Int)=true then iP (c::l)else if cC (c.toNat:Int)=true then kD (c::l)else if c=39 then nU l else pM (c::l):=rfl
theorem aC9{p:UInt8->Bool}(l:LU):(l.takeWhile p).length<=l.length:=(List.takeWhile_prefix p).length_le
theorem aNx{p:UInt8->Bool}(l:LU):l.takeWhile p=l.take (l.takeWhile p).length:=by
 have h:=List.takeWhile_prefix (l:=l) p;exact(List.prefix_iff_eq_take.1 h)
theorem aOm{p:UInt8->Bool}{c:UInt8}{l:LU}(h:p c=true):0<((c::l).takeWhile p).length:=by
 simp[List.takeWhile_cons,h]
theorem aAv{p:UInt8->Bool}:∀{a l:LU},(∀c∈a,p c=true)->(l=a\/∃c b,l=a++c::b/\p c=false)->l.takeWhile p=a
 |[],l,_,h=>by
  rcases h with rfl|⟨c,b,rfl,hc⟩;· rfl
  . simp[List.takeWhile_cons,hc]
 |x::a,l,ha,h=>by
  have hx:=ha x aC;have ih:=fun l h=>aAv (a:=a) (l:=l) (fun c hc=>ha c (by simp[hc])) h;rcases h with rfl|⟨c,b,rfl,hc⟩;· simp[List.takeWhile_cons,hx,ih a (.inl rfl)]
  . simp[List.takeWhile_cons,hx,ih _ (.inr ⟨c,b,rfl,hc⟩)]
theorem aFi{p:UInt8->Bool}:∀(l:LU),∀c∈l.takeWhile p,p c=true
 |[],c,h=>by simp at h
 |x::l,c,h=>by
  cases hx:p x with
  |false=>simp[List.takeWhile_cons,hx]at h
  |true=>
   simp only[List.takeWhile_cons,hx,if_true,Yw]at h;rcases h with rfl|h;· exact hx
   . exact aFi l c h
theorem aWu{l m:LU}(h:sE l=some m):m∈iD/\m.isPrefixOf l=true:=by
 unfold sE at h;have h2:=List.find?_some h;exact⟨List.mem_of_find?_eq_some h,h2⟩
theorem bRv{l m:LU}(h:sE l=some m):0<m.length/\m.length<=l.length/\m=l.take m.length:=by
 obtain⟨h1,h2⟩:=aWu h;have h3:∀m∈iD,0<m.length:=aF;rw[List.isPrefixOf_iff_prefix]at h2;exact⟨h3 m h1,h2.length_le,List.prefix_iff_eq_take.1 h2⟩
def Tk.w(t:Tk):Nat:=t.s.length+(if t.k=4 then 2 else 0)
theorem xW{l:LU}{t:Tk}{z:Nat}(h:gV l=some (t,z)):
 0<z/\z<=l.length/\t.w=z/\t.k≠6/\t.a=0/\(t.k≠4->t.s=l.take z):=by
 cases l with
 |nil=>cases h
 |cons c l=>
  rw[rP]at h;by_cases h1:jS (c.toNat:Int)=true
  . rw[if_pos h1]at h;have hn:cZ (c.toNat:Int)=true:=by
     simp only[jS,Bool.or_eq_true]at h1;rcases h1 with h1|h1<;>simp[cZ,h1]
    have hp:0<(bO (c::l)).length:=aOm (p:=fun c=>cZ (c.toNat:Int)) hn;have Cz:(bO (c::l)).length<=(c::l).length:=aC9 _;have ht:bO (c::l)=(c::l).take (bO (c::l)).length:=aNx _;unfold iP at h;split at h;· exact aP7
    . split at h;· exact aP7
      . cases h
  . rw[if_neg h1]at h;by_cases h2:cC (c.toNat:Int)=true
    . rw[if_pos h2]at h;have hp:0<(dR (c::l)).length:=aOm (p:=fun c=>cC (c.toNat:Int)) h2;have Cz:(dR (c::l)).length<=(c::l).length:=aC9 _;have ht:dR (c::l)=(c::l).take (dR (c::l)).length:=aNx _;unfold kD at h;split at h;· cases h
      . exact aP7
    . rw[if_neg h2]at h;by_cases h3:c=39
      . rw[if_pos h3]at h;unfold nU at h;split at h
        . rename_i hh;cases h;exact⟨by omega,by simp;omega,by simp[Tk.w],by simp,rfl,fun h=>absurd rfl h⟩
        . cases h
      . rw[if_neg h3]at h;unfold pM at h;cases hm:sE (c::l)with
        |none=>rw[hm]at h;cases h
        |some m=>
         rw[hm]at h;obtain⟨p1,p2,p3⟩:=bRv hm;cases h;exact⟨p1,p2,by simp[Tk.w],by simp,rfl,fun _=>p3⟩
theorem bRw(l:LU):dJ l<=l.length:=by
 unfold dJ;split;· exact aC9 _
 . split;· exact Ys _
   . split<;>simp
def cK(a:Nat)(l:LU):List Tk × Option Nat:=
 if h:l=[]then([],none)
 else if hb:0<dJ l then cK (a+dJ l) (l.drop (dJ l))
 else match gV l with
  |none=>([],some a)
  |some (t,z)=>if hz:0<z then({ t with a:=a }::(cK (a+z) (l.drop z)).1,(cK (a+z) (l.drop z)).2)else([],some a)
termination_by l.length
decreasing_by
 all_goals
  have:=List.length_pos_iff.2 h
  simp only[Zv];omega
theorem aB6(a:Nat):cK a []=([],none):=by unfold cK;simp
theorem zO{a:Nat}{l:LU}(hb:0<dJ l):cK a l=cK (a+dJ l) (l.drop (dJ l)):=by
 have h:l≠[]:=fun e=>by subst e;revert hb;decide
 rw[cK];simp[h,hb]
theorem aIm{a:Nat}{l:LU}(h:l≠[])(hb:dJ l=0)(ht:gV l=none):cK a l=([],some a):=by
 rw[cK];simp[h,hb,ht]
theorem aB7{a z:Nat}{l:LU}{t:Tk}(hb:dJ l=0)(ht:gV l=some (t,z)):
 cK a l=({ t with a:=a }::(cK (a+z) (l.drop z)).1,(cK (a+z) (l.drop z)).2):=by
 have h:l≠[]:=fun e=>by subst e;cases ht
 rw[cK];simp[h,hb,ht,(xW ht).1]
theorem aE8{P:Nat->List UInt8->Prop}(hn:∀a,P a [])(hb:∀a l,l≠[]->0<dJ l->P (a+dJ l) (l.drop (dJ l))->P a l)
 (hx:∀a l,l≠[]->dJ l=0->gV l=none->P a l)(ht:∀a l t z,l≠[]->dJ l=0->gV l=some (t,z)->P (a+z) (l.drop z)->P a l):
 ∀n a l,l.length<=n->P a l
 |0,a,l,h=>by
  obtain rfl:l=[]:=Zu aA;exact hn a
 |n+1,a,l,h=>by
  by_cases h0:l=[];· subst h0;exact hn a
  . have hl:=List.length_pos_iff.2 h0;rcases Nat.eq_zero_or_pos (dJ l)with h1|h1
    . cases h2:gV l with
      |none=>exact hx a l h0 h1 h2
      |some x=>
       obtain⟨t,z⟩:=x;refine ht a l t z h0 h1 h2 (aE8 hn hb hx ht n _ _ ?_)
       have:=(xW h2).1
       simp only[Zv];omega
    . refine hb a l h0 h1 (aE8 hn hb hx ht n _ _ ?_);simp only[Zv];omega
def Tk.up(d:Nat)(t:Tk):Tk:={ t with a:=t.a+d }
theorem bZy(l:LU):∀a b:Nat,a<=b->l.foldl (fun a c=>a*10+(c.toNat-48)) a<=l.foldl (fun a c=>a*10+(c.toNat-48)) b/\a<=l.foldl (fun a c=>a*10+(c.toNat-48)) b:=by
 induction l with
 |nil=>intro a b h;exact⟨h,h⟩
 |cons c l ih=>
  intro a b h;simp only[List.foldl_cons];refine⟨(ih _ _ aA).1,Yr ?_ (ih _ _ (Yh _)).2⟩;omega
theorem aU6{c:UInt8}(h:cC (c.toNat:Int)=true):48<=c.toNat/\c.toNat<=57:=by
 simp[cC]at h;omega
theorem bZz(l:LU):∀acc:Nat,(∀c∈l,cC (c.toNat:Int)=true)->
 Lib.parseUintM (2 ^ 64-1) acc l=.ok (l.foldl (fun a c=>a*10+(c.toNat-48)) acc)\/
 (Lib.parseUintM (2 ^ 64-1) acc l=.range/\18446744073709551616<=l.foldl (fun a c=>a*10+(c.toNat-48)) acc):=by
 induction l with
 |nil=>intro acc _;exact .inl rfl
 |cons c l ih=>
  intro acc hd;have hc:=aU6 (hd c aC);simp only[List.foldl_cons];unfold Lib.parseUintM;rw[if_pos hc];have hu:=(bZy l (acc*10+(c.toNat-48)) _ (Yh _)).2;by_cases h1:1844674407370955162<=acc
  . rw[if_pos h1];exact .inr ⟨rfl,by omega⟩
  . rw[if_neg h1];by_cases h2:2 ^ 64-1<acc*10+(c.toNat-48)
    . rw[if_pos h2];exact .inr ⟨rfl,by omega⟩
    . rw[if_neg h2];exact ih _ fun c hc=>hd c (by simp[hc])
theorem aSh{l:LU}(h0:l≠[])(hd:∀c∈l,cC (c.toNat:Int)=true):
 Lib.parseIntB 64 l=if 9223372036854775807<jH l then .range else .ok (jH l:Int):=by
 cases l with
 |nil=>exact absurd rfl h0
 |cons c l=>
  have hc:=aU6 (hd c aC);have Ae:¬(c.toNat=43\/c.toNat=45):=aA;have Aa:¬c.toNat=45:=aA;unfold Lib.parseIntB;simp only[if_neg Ae];unfold Lib.parseUintB;rw[if_neg aC];have e:jH (c::l)=(c::l).foldl (fun a c=>a*10+(c.toNat-48)) 0:=rfl;rcases bZz (c::l) 0 hd with h|⟨h,h2⟩
  . rw[h,<-e];by_cases hb:9223372036854775807<jH (c::l)
    . have:(2:Nat) ^ (64-1)<=jH (c::l):=by omega
      simp[Aa,hb,this]
    . have:¬(2:Nat) ^ (64-1)<=jH (c::l):=by omega
      simp[Aa,hb,this]
  . rw[h];rw[<-e]at h2
    have:9223372036854775807<jH (c::l):=aA
    simp[this]
section
open Go.RowKit
theorem aBx(x:Int)(w:World):Calls Tryz.prog 76 #[.int .u8 x] w fun e w'=>e=.returned (.bool (jS x))/\w=w':=by
 by_cases h1:97<=x;all_goals by_cases h2:x<=122
 all_goals by_cases h3:65<=x
 all_goals
  go_in
  go_wp2;go_ret;exact⟨aO (by rw[Zq];simp[jS,fV,jZ,h1,h2,h3]<;>omega),rfl⟩
theorem aE9(x:Int)(w:World):Calls Tryz.prog 78 #[.int .u8 x] w fun e w'=>e=.returned (.bool (cC x))/\w=w':=by
 exact bCr
theorem aWv(x:Int)(w:World):Calls Tryz.prog 137 #[.int .u8 x] w fun e w'=>e=.returned (.bool (cZ x))/\w=w':=by
 by_cases h1:jS x=true
 . go_in
   go_wp2_with fail;refine(aBx x _).mono ?_;rintro e w' ⟨rfl,rfl⟩;go_wp2_with fail;go_ret;exact⟨aO (by simp only[jS]at h1;simp[cZ,h1]),rfl⟩
 . have h1:jS x=false:=by simpa using h1
   by_cases h3:cC x=true
   all_goals
    go_in
    go_wp2_with fail;refine(aBx x _).mono ?_;rintro e w' ⟨rfl,rfl⟩;go_wp2_with fail;refine(aE9 x _).mono ?_;rintro e w' ⟨rfl,rfl⟩;go_wp2_with fail;go_ret;exact⟨aO (by simp only[jS]at h1;rw[Zq];simp[cZ,h1,h3]),rfl⟩
section
variable {p:UInt8->Bool}{s:BA}{k:Nat}
def yG(p:UInt8->Bool)(s:BA)(k:Nat):Prop:=∀j (h:j<s.size),j<k->p (s[j]'h)=true
theorem aTn:yG p s 0:=fun j _ hj=>absurd hj aA
theorem bLn(H:yG p s k)(Ah:k<s.size)(hx:p (s[k]'Ah)=true):yG p s (k+1):=fun j h hj=>by
 exact bDl
theorem aU7(H:yG p s k):∀c∈s.data.toList.take k,p c=true:=by
 intro c hc;obtain⟨j,hj,e⟩:=Zm hc;have Aa:j<k/\j<s.data.toList.length:=by rw[List.length_take]at hj;omega
 have hs:j<s.size:=by rw[Zp];exact Aa.2
 rw[<-e,List.getElem_take,aAa s j hs];exact H j hs Aa.1
theorem aTo(H:yG p s k)(Ah:k<s.size)(hx:p (s[k]'Ah)=false):s.data.toList.takeWhile p=s.data.toList.take k:=by
 refine aAv (aU7 H) (.inr ⟨s[k]'Ah,s.data.toList.drop (k+1),?_,hx⟩);have hl:k<s.data.toList.length:=by rw[<-Zp];exact Ah
 rw[<-aAa s k Ah,<-List.drop_eq_getElem_cons hl,List.take_append_drop]
theorem aU8(H:yG p s k)(hk:s.size<=k):s.data.toList.takeWhile p=s.data.toList:=by
 refine aAv (fun c hc=>?_) (.inl rfl);have e:s.data.toList.take k=s.data.toList:=Yz (by rw[<-Zp];exact hk);exact aU7 H c (by rw[e];exact hc)
end
theorem aHl(s:BA)(w:World)(hs:s.size<=9223372036854775807):
 Calls Tryz.prog 136 #[.string s,.func (.func 137) #[] #[]] w fun e w'=>e=.returned (.int .i64 ((bO s.data.toList).length:Nat))/\w=w':=by
 go_in
 go_wp2_with fail;go_loop [5] (fun i=>∃k:Nat,k<=s.size/\i=.int .i64 k/\yG (fun c=>cZ (c.toNat:Int)) s k) (fun i=>s.size-(intOf i).toNat)
 case atStart=>exact⟨0,by omega,rfl,aTn⟩
 case round=>
  obtain⟨k,hk,rfl,hrel⟩:=hrel;have HR:=Hd hrel;clear hrel;by_cases Ah:k<s.size
  . by_cases hx:cZ ((s[k]'Ah).toNat:Int)=true
    . have HX:=Hd hx;go_wp2_with (go_at_call 137;refine(aWv _ _).mono ?_;rintro e w' ⟨rfl,rfl⟩);exact bC0
    . have hx:cZ ((s[k]'Ah).toNat:Int)=false:=by simpa using hx
      have HE:=Hd (show(k:Int)=((bO s.data.toList).length:Nat)by rw[bO,aTo HR.o Ah hx,List.length_take,<-Zp];omega);go_wp2_with (go_at_call 137;refine(aWv _ _).mono ?_;rintro e w' ⟨rfl,rfl⟩);exact aJ5
  . have HE:=Hd (show(k:Int)=((bO s.data.toList).length:Nat)by rw[bO,aU8 HR.o aA,<-Zp];omega);go_wp2_with fail;exact aJ5
theorem aH1(s:BA)(w:World)(hs:s.size<=9223372036854775807):
 Calls Tryz.prog 136 #[.string s,.func (.func 78) #[] #[]] w fun e w'=>e=.returned (.int .i64 ((dR s.data.toList).length:Nat))/\w=w':=by
 go_in
 go_wp2_with fail;go_loop [5] (fun i=>∃k:Nat,k<=s.size/\i=.int .i64 k/\yG (fun c=>cC (c.toNat:Int)) s k) (fun i=>s.size-(intOf i).toNat)
 case atStart=>exact⟨0,by omega,rfl,aTn⟩
 case round=>
  obtain⟨k,hk,rfl,hrel⟩:=hrel;have HR:=Hd hrel;clear hrel;by_cases Ah:k<s.size
  . by_cases hx:cC ((s[k]'Ah).toNat:Int)=true
    . have HX:=Hd hx;go_wp2_with (go_at_call 78;refine(aE9 _ _).mono ?_;rintro e w' ⟨rfl,rfl⟩);exact bC0
    . have hx:cC ((s[k]'Ah).toNat:Int)=false:=by simpa using hx
      have HE:=Hd (show(k:Int)=((dR s.data.toList).length:Nat)by rw[dR,aTo HR.o Ah hx,List.length_take,<-Zp];omega);go_wp2_with (go_at_call 78;refine(aE9 _ _).mono ?_;rintro e w' ⟨rfl,rfl⟩);exact aJ5
  . have HE:=Hd (show(k:Int)=((dR s.data.toList).length:Nat)by rw[dR,aU8 HR.o aA,<-Zp];omega);go_wp2_with fail;exact aJ5
end
section
open Go.RowKit
def cCf:List ByteArray:=[⟨#[]⟩,⟨#[45]⟩,⟨#[110,111,116]⟩,⟨#[43]⟩,⟨#[45]⟩,⟨#[42]⟩,⟨#[47]⟩,⟨#[109,111,100]⟩,⟨#[97,110,100]⟩,⟨#[111,114]⟩,⟨#[120,111,114]⟩,⟨#[61]⟩,⟨#[60,62]⟩,⟨#[60]⟩,⟨#[60,61]⟩,⟨#[62]⟩,⟨#[62,61]⟩]
def wN(op:Int):ByteArray:=if 1<=op/\op<=16 then cCf[op.toNat]?.getD ⟨#[]⟩else⟨#[]⟩
theorem aYz{op:Int}(h:op<1\/16<op):wN op=⟨#[]⟩:=by
 unfold wN;rw[if_neg aA]
theorem nV{op:Int}(h:op<1\/16<op)(k:Int)(hk:1<=k/\k<=16):(op==k)=false:=by
 rw[Xf];omega
theorem bZ0(op:Int)(w:World):
 Calls Tryz.prog 291 #[.int .i64 op] w fun r w'=>r=.returned (.string (wN op))/\w=w':=by
 obtain h|rfl|rfl|rfl|rfl|rfl|rfl|rfl|rfl|rfl|rfl|rfl|rfl|rfl|rfl|rfl|rfl:(op<1\/16<op)\/op=1\/op=2\/op=3\/op=4\/op=5\/op=6\/op=7\/op=8\/op=9\/op=10\/op=11\/op=12\/op=13\/op=14\/op=15\/op=16:=by omega
 . rw[aYz h];have b1:=nV h 1 aA;have b2:=nV h 2 aA;have b3:=nV h 3 aA;have b4:=nV h 4 aA;have b5:=nV h 5 aA;have b6:=nV h 6 aA;have b7:=nV h 7 aA;have b8:=nV h 8 aA;have b9:=nV h 9 aA;have Bs:=nV h 10 aA;have Aq:=nV h 11 aA;have Ha:=nV h 12 aA;have Ct:=nV h 13 aA;have Ae:=nV h 14 aA;have Fs:=nV h 15 aA;have Aa:=nV h 16 aA;clear h;go_in
   go_wp2_with fail;go_ret;exact⟨rfl,rfl⟩
 all_goals
  go_in
  go_wp2_with fail;go_ret;exact⟨rfl,rfl⟩
theorem bVy(op:Int)(w:World):
 Calls Tryz.prog 179 #[.int .i64 op] w fun r w'=>r=.returned (.string (wN op))/\Below w.heap.size w w':=by
 obtain h|rfl|rfl|rfl|rfl|rfl|rfl|rfl|rfl|rfl|rfl|rfl|rfl|rfl|rfl|rfl|rfl:(op<1\/16<op)\/op=1\/op=2\/op=3\/op=4\/op=5\/op=6\/op=7\/op=8\/op=9\/op=10\/op=11\/op=12\/op=13\/op=14\/op=15\/op=16:=by omega
 . rw[aYz h];rcases h with h|h
   all_goals
    go_in
    go_wp2_with fail;go_ret;exact⟨rfl,(Yg _ _).alloc (Yh _) _⟩
 all_goals
  go_in
  go_wp2_with fail;go_ret;exact⟨rfl,(Yg _ _).alloc (Yh _) _⟩
theorem iK{a b:BA}(h:a=b):Ending.returned (.string a)=.returned (.string b):=by rw[h]
def lJ(U u:Nat)(s:LU):Prop:=(s=[]/\u=U)\/(s≠[]/\Lib.decDigits U=(if u=0 then []else Lib.decDigits u)++s)
theorem lJ.start(U:Nat):lJ U U []:=.inl ⟨rfl,rfl⟩
theorem aR9(u:Nat):Lib.decDigits u=(if u / 10=0 then []else Lib.decDigits (u / 10))++[UInt8.ofNat (48+u % 10)]:=by
 by_cases h:u<10;· rw[Lib.decDigits_one h,if_pos aA,List.nil_append,Nat.mod_eq_of_lt h]
 . rw[Lib.decDigits,dif_neg h,if_neg aA]
theorem lJ.step{U u:Nat}{s:LU}(h:lJ U u s)(hu:0<u\/s=[]):lJ U (u / 10) (UInt8.ofNat (48+u % 10)::s):=by
 refine .inr ⟨by simp,?_⟩;rcases h with⟨rfl,rfl⟩|⟨hs,he⟩;· exact aR9 u
 . have Aa:¬u=0:=by
    rcases hu with h|h;· omega
    . exact absurd h hs
   rw[he,if_neg Aa,aR9 u,List.append_assoc];rfl
theorem lJ.end_{U u:Nat}{s:LU}(h:lJ U u s)(hu:u=0)(hs:s≠[]):s=Lib.decDigits U:=by
 rcases h with⟨h,_⟩|⟨_,he⟩;· exact absurd h hs
 . rw[he,if_pos hu,List.nil_append]
theorem lJ.len{U u:Nat}{s:LU}(h:lJ U u s)(hU:U<18446744073709551616):s.length<=20:=by
 rcases h with⟨rfl,_⟩|⟨_,he⟩;· simp
 . have h1:=congrArg List.length he;rw[Lib.decDigits_length,Yo]at h1
   have:=Lib.nDigits_le20 U hU
   omega
theorem lJ.le{U u:Nat}{s:LU}(h:lJ U u s):True:=trivial
def bAw(v:Value):Nat:=match v with
 |.string s=>1-s.size
 |_=>0
def aRk(a b:Value):Nat:=2*(intOf a).toNat+bAw b
theorem bRx{w:World}{A:OA}{c:Nat}{l:Int}(h:Rd .u8 w A 1 c [l]):
 (convert 237 9 (.slice A 1 c)).run Tryz.prog w=.ok (.string ⟨#[l.toNat.toUInt8]⟩) w:=by
 obtain⟨b,off,rfl,hb,hc⟩:=h.at_ (i:=0) aA
 have:=run_convert_bytes_arg w _ _ Tryz.underlying237 Tryz.underlying5 b off 1 c [l] h.len (fun i hi=>by rw[hc i hi,List.getD_eq_getElem?_getD]) _ Tryz.underlying9
 rw[this];rfl
theorem bRy(u:Nat)(s:BA):((⟨#[UInt8.ofNat (48+u % 10)]⟩:BA)++s).data.toList=UInt8.ofNat (48+u % 10)::s.data.toList:=aC
theorem aU9{w:World}{U u:Nat}{s:BA}(h:lJ U u s.data.toList)(hu:0<u\/s.data.toList=[]):lJ U (u / 10) ((⟨#[UInt8.ofNat (48+u % 10)]⟩:BA)++s).data.toList:=by
 rw[bRy];exact h.step hu
theorem eT{a b:BA}(h:a.data.toList=b.data.toList):a=b:=ByteArray.ext (Array.ext' h)
theorem bVz{z:Int}{U:Nat}{s:BA}(hz:z<0)(hU:U=z.natAbs)(h:s.data.toList=Lib.decDigits U):(⟨#[45]⟩:BA)++s=⟨(Lib.itoa z).toArray⟩:=by
 refine eT ?_;subst hU;unfold Lib.itoa;rw[if_pos hz];simp[h]
theorem bV0{z:Int}{U:Nat}{s:BA}(hz:0<=z)(hU:U=z.natAbs)(h:s.data.toList=Lib.decDigits U):s=⟨(Lib.itoa z).toArray⟩:=by
 refine eT ?_;unfold Lib.itoa;rw[if_neg aA,show z.toNat=U by omega];simp[h]
theorem aMj(u:Nat)(wr:World):
 (convert 237 9 (.slice (some ⟨wr.heap.size,0,none⟩) 1 1)).run Tryz.prog (wr.alloc (.cells #[.int .u8 (48+(u:Int) % 10)] 5))=.ok (.string ⟨#[UInt8.ofNat (48+u % 10)]⟩) (wr.alloc (.cells #[.int .u8 (48+(u:Int) % 10)] 5)):=by
 have:=bRx (Rd.lit .u8 wr 5 [48+(u:Int) % 10] 1 rfl aA bFr #[.int .u8 (48+(u:Int) % 10)] rfl)
 rw[this];have e:((48+(u:Int) % 10).toNat.toUInt8)=UInt8.ofNat (48+u % 10):=congrArg UInt8.ofNat aA;rw[e]
theorem bN0(z:Int)(h0:-9223372036854775808<=z)(h1:z<=9223372036854775807)(w:World):
 Calls Tryz.prog 207 #[.int .i64 z] w fun r w'=>r=.returned (.string ⟨(Lib.itoa z).toArray⟩)/\Below w.heap.size w w':=by
 obtain⟨U,hU,Ae⟩:∃U:Nat,U=z.natAbs/\U<18446744073709551616:=⟨z.natAbs,rfl,by omega⟩;have HU:=Hd hU;by_cases hz:z<0
 . have Af:IntKind.u64.wrap z=z+18446744073709551616:=by rw[IntKind.wrap_u64];omega
   have Bs:IntKind.u64.wrap (-(z+18446744073709551616))=(U:Int):=by rw[IntKind.wrap_u64];omega
   clear hU;go_in
   go_wp2_with fail;go_loopw [3,4] (fun a b wr=>∃(u:Nat)(s:BA),a=.int .u64 u/\b=.string s/\u<=U/\lJ U u s.data.toList/\Below w.heap.size w wr) (fun a b _=>aRk a b)
   case atStart=>exact⟨U,⟨#[]⟩,rfl,rfl,Yh _,lJ.start U,Yg _ _⟩
   case round=>
    obtain⟨u,s,rfl,rfl,hu,hd,An⟩:=hrel;have HD:=Hd hd;have Bk:=Hd An;have Au:s.size<=20:=by have:=lJ.len hd Ae;simpa using this
    clear hd An;have Ev:=aMj u wr;have z1:(9223372036854775807<1+s.size)=False:=aW;have z2:(9223372036854775807<s.size+1)=False:=aW;have z3:(9223372036854775807<s.size+1+1)=False:=aW;by_cases Ml:0<u;· exact bG4
    . obtain rfl:u=0:=by omega
      by_cases Fo:s.data.toList=[];· exact bGx
      . have HE:=Hd (HD.o.end_ rfl Fo);have Aq:(s.toList==([]:LU))=false:=aKm;have Aa:s.toList.isEmpty=false:=aKm;go_wp2_with fail;go_ret;exact⟨iK (bVz hz HU.o HE.o),Bk.o⟩
 . have Af:IntKind.u64.wrap z=(U:Int):=by rw[IntKind.wrap_u64];omega
   clear hU;go_in
   go_wp2_with fail;go_loopw [3,4] (fun a b wr=>∃(u:Nat)(s:BA),a=.int .u64 u/\b=.string s/\u<=U/\lJ U u s.data.toList/\Below w.heap.size w wr) (fun a b _=>aRk a b)
   case atStart=>exact⟨U,⟨#[]⟩,rfl,rfl,Yh _,lJ.start U,Yg _ _⟩
   case round=>
    obtain⟨u,s,rfl,rfl,hu,hd,An⟩:=hrel;have HD:=Hd hd;have Bk:=Hd An;have Au:s.size<=20:=by have:=lJ.len hd Ae;simpa using this
    clear hd An;have Ev:=aMj u wr;have z1:(9223372036854775807<1+s.size)=False:=aW;have z2:(9223372036854775807<s.size+1)=False:=aW;have z3:(9223372036854775807<s.size+1+1)=False:=aW;by_cases Ml:0<u;· exact bG4
    . obtain rfl:u=0:=by omega
      by_cases Fo:s.data.toList=[];· exact bGx
      . have HE:=Hd (HD.o.end_ rfl Fo);have Aq:(s.toList==([]:LU))=false:=aKm;have Aa:s.toList.isEmpty=false:=aKm;go_wp2_with fail;go_ret;exact⟨iK (bV0 aA HU.o HE.o),Bk.o⟩
end
end Go.Proofs.YtagkcjpoipcpkaaGreatDoor
