/- Parts of the proof: IdF, IdG, IdH, IdI, IdJ, EyB, EyC. Conditions: each theorem's own. -/
import Derived.Maps.OwnSet
import Derived.Maps.OwnOps
import Derived.Test.YtegjgiofmpolnaaGreatC02
namespace Go.Proofs.YtegjgiofmpolnaaGreat
set_option linter.unusedVariables false
set_option linter.unusedSimpArgs false
set_option maxRecDepth 100000
set_option maxHeartbeats 40000000
section
open Go.RowKit Go.Maps Go.WideMaps Go.Sort
theorem Yw:type_of% @List.append_assoc:=@List.append_assoc
theorem Zp:type_of% @List.map_append:=@List.map_append
end
section
open Go.RowKit
theorem aB2{c:UInt8}{s a b:ByteArray}{f:Bool}(hf:f=false->s.data.toList=a.data.toList) (ht:f=true->s.data.toList=a.data.toList++c::b.data.toList):
 a.size<=s.size/\(f=true->b.size<s.size):=by
 have h1:=Zl s;have h2:=Zl a;have h3:=Zl b
 cases f with
 | false=>have:=hf rfl;rw [<- this] at h2;exact⟨by omega,fun h=>by cases h⟩
 | true=>
  have:=congrArg List.length (ht rfl);simp only [Yn,Yo] at this;exact⟨by omega,fun _=>by omega⟩
theorem yO(s:ByteArray) (w:World) (hs:s.size<=9223372036854775806):
 Calls Tryz.prog 176 #[.string s] w fun e w'=>e=.returned (.bool (eU s.data.toList))/\Below w.heap.size w w':=by
 go_enter Tryz.func176,Tryz.ntmps176
 go_wp2_with fail
 refine(aE4 s 46 _ hs).mono ?_;rintro e w1 ⟨a,b,f,rfl,hb,hc,hf,ht⟩;have Aa:=aB2 hf ht;have HB:=Hd hb;clear hb
 by_cases hl:aX a.data.toList=true
 . cases f with
   | false=>
    have HE:=Hd (show true=eU s.data.toList by rw [hf rfl,aAq hc,hl]);clear hf ht hc;have ha:=Aa.1;clear Aa
    go_wp2_with fail
    refine(iG a _ (by omega)).mono ?_;rintro e w2 ⟨rfl,hb⟩;have Ab:=Hd (lP HB.o hb);clear hb
    go_wp2_with fail
    go_ret
    exact⟨aF HE.o,Ab.o⟩
   | true=>
    have HE:=Hd (show gP b.data.toList=eU s.data.toList by rw [ht rfl,aCz hc,hl];rfl);clear hf ht hc;have ha:=Aa.1;have Ad:=Aa.2 rfl;clear Aa
    go_wp2_with fail
    refine(iG a _ (by omega)).mono ?_;rintro e w2 ⟨rfl,hb⟩;have Ab:=Hd (lP HB.o hb);clear hb
    go_wp2_with fail
    refine(aL1 b _ (by omega)).mono ?_;rintro e w3 ⟨rfl,hb⟩;have Ac:=Hd (lP Ab.o hb);clear hb
    go_wp2_with fail
    go_ret
    exact⟨aF HE.o,Ac.o⟩
 . have hl:aX a.data.toList=false:=by simpa using hl
   have HE:Hid (false=eU s.data.toList):=by
    refine Hd ?_
    cases f with
    | false=>rw [hf rfl,aAq hc,hl]
    | true=>rw [ht rfl,aCz hc,hl];rfl
   clear hf ht hc;have ha:=Aa.1;clear Aa
   go_wp2_with fail
   refine(iG a _ (by omega)).mono ?_;rintro e w2 ⟨rfl,hb⟩;have Ab:=Hd (lP HB.o hb);clear hb
   go_wp2_with fail
   go_ret
   exact⟨aF HE.o,Ab.o⟩
def aF3:Value->Nat
 | .string s=>s.size
 | _=>0
theorem aRi(s:ByteArray) (w:World) (hs:s.size<=9223372036854775806):
 Calls Tryz.prog 160 #[.string s] w fun e w'=>e=.returned (.bool (eI s.data.toList))/\Below w.heap.size w w':=by
 go_enter Tryz.func160,Tryz.ntmps160
 go_wp2_with fail
 go_loopw [0] (fun v wr=>∃ t:ByteArray,v=.string t/\t.size<=s.size/\eI s.data.toList=eI t.data.toList/\Below w.heap.size w wr) (fun v _=>aF3 v)
 case atStart=>exact⟨s,rfl,Yh _,rfl,Yg _ _⟩
 case round=>
  obtain⟨t,rfl,Ag,Ad,Ac⟩:=hrel;have HP:=Hd Ad;have Ae:=Hd Ac;clear Ad Ac
  go_wp2_with fail
  refine(aE4 t 47 _ (by omega)).mono ?_;rintro e w1 ⟨a,b,f,rfl,hb,hc,hf,ht⟩;have Aa:=aB2 hf ht;have HB:=Hd (Ae.o.trans (hb.mono Ae.o.size));clear hb;have ha:=Aa.1
  by_cases hl:eU a.data.toList=true
  . cases f with
    | false=>
     have HE:=Hd (show true=eI s.data.toList by rw [HP.o,hf rfl,wJ hc,hl]);clear hf ht hc Aa
     go_wp2_with fail
     refine(yO a _ (by omega)).mono ?_;rintro e w2 ⟨rfl,hb⟩;have Ab:=Hd (HB.o.trans (hb.mono HB.o.size));clear hb
     go_wp2_with fail
     go_ret
     exact⟨aF HE.o,Ab.o⟩
    | true=>
     have HE:=Hd (show eI s.data.toList=eI b.data.toList by rw [HP.o,ht rfl,aD4 hc,hl];rfl);have Af:=Aa.2 rfl;clear hf ht hc Aa
     go_wp2_with fail
     refine(yO a _ (by omega)).mono ?_;rintro e w2 ⟨rfl,hb⟩;have Ab:=Hd (HB.o.trans (hb.mono HB.o.size));clear hb
     go_wp2_with fail
     go_roundw
     case rel=>exact⟨b,rfl,by omega,HE.o,Ab.o⟩
     case measure=>simp [aF3];omega
  . have hl:eU a.data.toList=false:=by simpa using hl
    have HE:Hid (false=eI s.data.toList):=by
     refine Hd ?_;rw [HP.o]
     cases f with
     | false=>rw [hf rfl,wJ hc,hl]
     | true=>rw [ht rfl,aD4 hc,hl];rfl
    clear hf ht hc Aa
    go_wp2_with fail
    refine(yO a _ (by omega)).mono ?_;rintro e w2 ⟨rfl,hb⟩;have Ab:=Hd (HB.o.trans (hb.mono HB.o.size));clear hb
    go_wp2_with fail
    go_ret
    exact⟨aF HE.o,Ab.o⟩
end
section
open Go.RowKit Go.Maps Go.WideMaps
theorem sB:Keyed Tryz.prog 9:=string_keyed Tryz.underlying9
theorem wY(w:World):(zeroValue 136).run Tryz.prog w=.ok (.agg #[]) w:=by kernel_rfl
def oG(ss:List ByteArray) (k:Nat):DataW Unit:=setOf (.agg []) ((ss.take k).map fun s=>Lit.string s.data.toList)
def mZ(ss:List ByteArray) (k:Nat):Prop:=((ss.take k).map fun s=>s.data.toList).Nodup
def mD(ss:List ByteArray) (k:Nat):Bool:=decide ((ss[k]?.getD ByteArray.empty).data.toList∈(ss.take k).map fun s=>s.data.toList)
def bP(ss:List ByteArray):Bool:=sF (ss.map fun s=>s.data.toList)
theorem aGy(ss:List ByteArray):oG ss 0=.map []:=by simp [oG,setOf]
theorem tC{ss:List ByteArray}{k:Nat}(h:k<ss.length):ss.take (k+1)=ss.take k++[ss[k]?.getD ByteArray.empty]:=by
 rw [List.take_succ_eq_append_getElem h,Yk h];rfl
theorem aGz(ss:List ByteArray) (k:Nat) (h:k<ss.length):oG ss (k+1)=(oG ss k).put (.string (ss[k]?.getD ByteArray.empty).data.toList) (.agg []):=by
 unfold oG;rw [tC h,Zp];exact setOf_snoc _ _ _
theorem vS(x:List UInt8):∀ l:List ByteArray,(l.map fun s=>Lit.string s.data.toList).any (fun y=>y.sameKey (.string x))=decide (x∈l.map fun s=>s.data.toList)
 | []=>rfl
 | a::r=>by
  have e:(Lit.string a.data.toList).sameKey (.string x)=(a.data.toList==x):=rfl;rw [Xg,List.any_cons,vS x r,Xg,e,Zm];simp only [Bool.or_eq_true,beq_iff_eq,decide_eq_true_eq,Yu];exact⟨fun h=>h.imp Eq.symm id,fun h=>h.imp Eq.symm id⟩
theorem aHl(ss:List ByteArray) (k:Nat):Maps.has (oG ss k) (.string (ss[k]?.getD ByteArray.empty).data.toList)=mD ss k:=by
 unfold oG mD;rw [has_setOf _ _ _ (fun y hy=>by obtain⟨_,_,rfl⟩:=List.mem_map.1 hy;trivial),vS]
theorem aAh(ss:List ByteArray):mZ ss 0:=by simp [mZ]
theorem aAi{ss:List ByteArray}{k:Nat}(H:mZ ss k) (h:k<ss.length) (hn:mD ss k=false):mZ ss (k+1):=by
 unfold mZ at H ⊢;rw [tC h,Zp,List.nodup_append];refine⟨H,by simp,fun a ha b hb=>?_⟩
 simp at hb
 subst hb;intro e;subst e;simp only [mD,decide_eq_false_iff_not] at hn;exact hn ha
theorem aAu{ss:List ByteArray}{k:Nat}(H:mZ ss k) (h:ss.length<=k):bP ss=true:=by
 unfold mZ at H;rw [Yx h] at H;exact Zx H
theorem aAv{ss:List ByteArray}{k:Nat}(h:k<ss.length) (hn:mD ss k=true):bP ss=false:=by
 simp only [mD,decide_eq_true_eq] at hn;unfold bP sF;refine Zy fun hd=>?_;have e:ss=ss.take k++ss.drop k:=(List.take_append_drop k ss).symm;rw [e,Zp,List.nodup_append] at hd
 have hm:(ss[k]?.getD ByteArray.empty)∈ss.drop k:=by
  rw [Yk h,Yt,List.drop_eq_getElem_cons h];exact List.mem_cons_self
 exact hd.2.2 _ hn _ (List.mem_map.2 ⟨_,hm,rfl⟩) rfl
theorem qP(A:Option Addr) (n c:Nat) (ss:List ByteArray) (w:World) (h:aN w A n ss) (hz:∀ s∈ss,s.size<=maxLen) (hn:n<=100):
 Calls Tryz.prog 144 #[.slice A n c] w fun e w'=>e=.returned (.bool (bP ss))/\Below w.heap.size w w':=by
 have Aq:=@run_makeMap Tryz.prog;have HL:=Hd h.len
 go_enter Tryz.func144,Tryz.ntmps144
 go_wp2_with fail
 go_loopw [11] (fun i wr=>∃ k:Nat,k<=n/\i=.int .i64 k/\wr.ownsMap Tryz.prog 9 unitElem w.heap.size k (oG ss k)/\Below w.heap.size w wr/\w.heap.size+1<=wr.heap.size/\mZ ss k)
  (fun i _=>n-(intOf i).toNat)
 case atStart=>exact⟨0,Yq _,rfl,by rw [aGy];exact World.ownsMap_made _ _ _ _,(Yg _ _).alloc (Yh _) _,by simp,aAh _⟩
 case round=>
  obtain⟨k,hk,rfl,Af,Ai,Ap,Ab⟩:=hrel;have HO:=Hd Ab;clear Ab
  by_cases Aj:k<n
  . obtain⟨b,An,rfl,hb,hc⟩:=h.at_ Aj;have Ao:wr.cell? ⟨b,An+k,none⟩=some (.string (ss[k]?.getD ByteArray.empty)):=(Ai.cell hb).trans (hc k Aj);have Ah:k<ss.length:=by rw [HL.o];exact Aj
    have HS:=Hd (aGz ss k Ah);have Ag:=aHl ss k;have Al:(ss[k]?.getD ByteArray.empty).size<=maxLen:=hz _ (by rw [Yk Ah];exact Zg _);clear hc hz;generalize hx:ss[k]?.getD ByteArray.empty=x at Ao Al Ag HS;have Ae:keyOf Tryz.prog 9 (.string x)=some (.string x.data.toList):=keyOf_string_mk Tryz.underlying9 Al;have HX:=Hd hx;have Am:=Hd Ah;clear hx Ah;have Ah:k<maxLen:=by unfold maxLen;omega
    by_cases Ac:mD ss k=true
    . have Ak:=Hd Ac;rw [Ac] at Ag;clear Ac
      go_wp2_with (at_lookup;refine wpList_lookup_own_unit _ rfl _ _ 89 rfl 9 136 sB Tryz.underlying89 (wY _) w.heap.size k _ rfl Af _ _ rfl Ae ?_)
      go_ret
      exact⟨aF (aAv Am.o Ak.o).symm,Ai.alloc Ai.size _⟩
    . have Ac:mD ss k=false:=by simpa using Ac
      have Ak:=Hd Ac;rw [Ac] at Ag;clear Ac
      go_wp2_with (first
       | (at_lookup;refine wpList_lookup_own_unit _ rfl _ _ 89 rfl 9 136 sB Tryz.underlying89 (wY _) w.heap.size k _ rfl Af _ _ rfl Ae ?_)
       | (at_mapUpdate;refine wpList_mapUpdate_own _ rfl _ _ _ 89 rfl 9 136 sB Tryz.underlying89 (unitElem (H:=Unit)) w.heap.size k _ rfl (Af.alloc _) Ah _ _ _ rfl rfl Ae _ [] unitElem_mk ?_;intro w1 Ad Aa))
      have HW:=Hd Ad;have HG:=Hd Aa;have s1:=Aa.size
      simp at s1
      clear Ad Aa
      go_roundw
      case rel=>
       refine⟨k+1,by omega,by go_num,?_,?_,by omega,aAi HO.o Am.o Ak.o⟩
       . rw [HS.o];exact HW.o
       . exact(Ai.alloc Ai.size _).grown HG.o (by simp;omega) (fun j hj=>by cases hj;exact Yh _)
      case measure=>simp [intOf];omega
  . go_wp2_with fail
    go_ret
    exact⟨aF (aAu HO.o (by rw [HL.o];omega)).symm,Ai⟩
end
section
open Go.RowKit
def aEc(ss:List ByteArray) (x:ByteArray) (j:Nat):Prop:=∀ i,i<j->((ss[i]?.getD ByteArray.empty).toList==x.toList)=false
theorem aHm{ss:List ByteArray}{k:Nat}(h:k<ss.length) (H:aEc ss (ss[k]?.getD ByteArray.empty) k):mD ss k=false:=by
 refine Zy fun hm=>?_;obtain⟨y,hy,e⟩:=List.mem_map.1 hm;obtain⟨i,hi,ey⟩:=Zi hy;rw [List.length_take] at hi;have h1:=H i (by omega);rw [List.getElem_take] at ey;rw [Yk (show i<ss.length by omega),Yt,ey,Zc,Zc,e] at h1
 simp at h1
theorem aHn{ss:List ByteArray}{i k:Nat}(h:k<ss.length) (hi:i<k) (he:((ss[i]?.getD ByteArray.empty).toList==(ss[k]?.getD ByteArray.empty).toList)=true):mD ss k=true:=by
 refine Zx (List.mem_map.2 ⟨ss[i]?.getD ByteArray.empty,?_,?_⟩)
 . rw [Yk (show i<ss.length by omega),Yt];exact List.mem_take_iff_getElem.2 ⟨i,by omega,rfl⟩
 . rw [Zc,Zc] at he;exact beq_iff_eq.1 he
theorem mU(A:Option Addr) (n c:Nat) (ss:List ByteArray) (w:World) (h:aN w A n ss) (hn:n<=100):
 Calls Tryz.prog 45 #[.slice A n c] w fun e w'=>e=.returned (.bool (bP ss))/\∃ m,w'=w.drewN m:=by
 have HL:=Hd h.len
 go_enter Tryz.func45,Tryz.ntmps45
 go_wp2_with fail
 go_loopw [3] (fun i wr=>∃ k:Nat,k<=n/\i=.int .i64 k/\(∃ m,wr=w.drewN m)/\mZ ss k) (fun i _=>n-(intOf i).toNat)
 case atStart=>exact⟨0,Yq _,rfl,⟨0,rfl⟩,aAh _⟩
 case round=>
  obtain⟨k,hk,rfl,⟨m,rfl⟩,Aa⟩:=hrel;have HO:=Hd Aa;clear Aa
  by_cases Ac:k<n
  . obtain⟨b,Aj,rfl,hb,hc⟩:=h.at_ Ac;have Ae:k<ss.length:=by rw [HL.o];exact Ac
    have Ah:=hc k Ac;generalize hx:ss[k]?.getD ByteArray.empty=x at Ah;have HX:=Hd hx;have Ab:=Hd Ae;have HC:=Hd hc;clear hx Ae hc
    go_wp2_with fail
    go_loopw [4] (fun j wr=>∃ i:Nat,i<=k/\j=.int .i64 i/\(∃ m,wr=w.drewN m)/\aEc ss x i) (fun j _=>k-(intOf j).toNat)
    case atStart=>exact⟨0,Yq _,rfl,⟨_,rfl⟩,fun i hi=>absurd hi (by omega)⟩
    case round=>
     obtain⟨i,hi,rfl,⟨m2,rfl⟩,Af⟩:=hrel;have Ad:=Hd Af;clear Af
     by_cases Ai:i<k
     . have Ag:=HC.o i (by omega);generalize hy:ss[i]?.getD ByteArray.empty=y at Ag;have HY:=Hd hy;clear hy
       by_cases he:(y.toList==x.toList)=true
       . have HE:=Hd he
         go_wp2_with fail
         go_quiet (fail)
         go_wp2_with fail
         go_ret
         refine⟨aF ?_,_,World.drewN_drewN _ _ _⟩;exact(aAv Ab.o (aHn Ab.o Ai (by rw [HX.o,HY.o];exact HE.o))).symm
       . have he:(y.toList==x.toList)=false:=by simpa using he
         have HE:=Hd he
         go_wp2_with fail
         go_quiet (fail)
         go_wp2_with fail
         go_roundw
         case rel=>
          refine⟨i+1,by omega,by go_num,⟨_,rfl⟩,fun j hj=>?_⟩;rcases Nat.lt_or_ge j i with h1 | h1
          . exact Ad.o j h1
          . obtain rfl:j=i:=by omega
            rw [HY.o];exact HE.o
         case measure=>simp [intOf];omega
     . go_wp2_with fail
       go_roundw
       case rel=>
        refine⟨k+1,by omega,by go_num,⟨_,rfl⟩,aAi HO.o Ab.o (aHm Ab.o ?_)⟩;rw [HX.o];exact fun j hj=>Ad.o j (by omega)
       case measure=>simp [intOf];omega
  . go_wp2_with fail
    go_ret
    exact⟨aF (aAu HO.o (by rw [HL.o];omega)).symm,_,rfl⟩
end
section
open Go.RowKit
def iM(ss:List ByteArray):List (List UInt8):=ss.map fun s=>s.data.toList
def lE(c:UInt8) (s:ByteArray) (ss:List ByteArray) (f i:Nat):Prop:=
 ss.length<=i/\((i<=s.size/\f<=i/\dB c s.data.toList=iM ss++dB c (s.data.toList.drop f)/\c∉(s.data.toList.drop f).take (i-f)) \/
 (i=s.size+1/\f=i/\dB c s.data.toList=iM ss))
section
variable {c:UInt8}{s:ByteArray}{ss:List ByteArray}{f i:Nat}
theorem aHo:lE c s [] 0 0:=⟨by simp,.inl ⟨by omega,by omega,by simp [iM],by simp⟩⟩
theorem aL2(H:lE c s ss f i) (hi:i<=s.size):f<=i:=by
 obtain⟨_,h | h⟩:=H <;> omega
theorem aAw(hi:i<=s.size):(s.extract f i).data.toList=(s.data.toList.drop f).take (i-f):=Lib.extract_data s f i
theorem aHp(H:lE c s ss f i) (hi:i=s.size):lE c s (ss++[s.extract f i]) (i+1) (i+1):=by
 subst hi;obtain⟨hl,h | h⟩:=H
 . obtain⟨_,hf,he,hn⟩:=h;refine⟨by simp;omega,.inr ⟨rfl,rfl,?_⟩⟩;have h1:(s.data.toList.drop f).take (s.size-f)=s.data.toList.drop f:=Yx (by rw [Zl];simp);rw [h1] at hn;rw [he,pY hn];simp only [iM,Zp,Xg,List.map_nil];rw [aAw (Yh _),h1]
 . omega
theorem aJd(H:lE c s ss f i) (hi:i<s.size) (hc:s[i]'hi=c):lE c s (ss++[s.extract f i]) (i+1) (i+1):=by
 obtain⟨hl,h | h⟩:=H
 . obtain⟨_,hf,he,hn⟩:=h;have Aa:i<s.data.toList.length:=by rw [<- Zl];exact hi
   refine⟨by simp;omega,.inl ⟨by omega,by omega,?_,by simp⟩⟩
   have e1:s.data.toList.drop f=(s.data.toList.drop f).take (i-f)++c::s.data.toList.drop (i+1):=by
    have h1:=(List.take_append_drop (i-f) (s.data.toList.drop f)).symm
    have h2:(s.data.toList.drop f).drop (i-f)=c::s.data.toList.drop (i+1):=by
     rw [List.drop_drop,show f+(i-f)=i by omega,List.drop_eq_getElem_cons Aa,pD s i hi,hc]
    rw [h2] at h1;exact h1
   rw [he,e1,aD3 hn];simp only [iM,Zp,Xg,List.map_nil,Yw,List.singleton_append];rw [aAw (by omega)]
 . omega
theorem aL3(H:lE c s ss f i) (hi:i<s.size) (hc:¬ s[i]'hi=c):lE c s ss f (i+1):=by
 obtain⟨hl,h | h⟩:=H
 . obtain⟨_,hf,he,hn⟩:=h;have Aa:i<s.data.toList.length:=by rw [<- Zl];exact hi
   refine⟨by omega,.inl ⟨by omega,by omega,he,?_⟩⟩;have e1:i+1-f=(i-f)+1:=by omega
   have hd:i-f<(s.data.toList.drop f).length:=by rw [List.length_drop];omega
   rw [e1,List.take_succ_eq_append_getElem hd,Zn];rintro (h | h)
   . exact hn h
   . simp only [List.mem_singleton,List.getElem_drop] at h
     apply hc
     rw [<- pD s i hi,h]
     congr 1
     omega
 . omega
theorem aJe(H:lE c s ss f i) (hi:¬ i<=s.size):dB c s.data.toList=iM ss:=by
 obtain⟨_,h | h⟩:=H
 . omega
 . exact h.2.2
end
def aE5(c:UInt8) (s:ByteArray) (w:World) (e:Ending) (w':World):Prop:=
 ∃ (A:Option Addr) (n k:Nat) (ss:List ByteArray),e=.returned (.slice A n k)/\aN w' A n ss/\dB c s.data.toList=iM ss/\n<=s.size+1/\Below w.heap.size w w'
theorem aJf{c:UInt8}{s:ByteArray}{w w':World}{base:Nat}{T:TypeId}{v:Value}{ss:List ByteArray}{f i n:Nat}
 (H:lE c s ss f i) (hi:¬ i<=s.size) (Ac:i<=s.size+1) (hs:s.size<=1000) (hn:n=ss.length) (Aa:w'.ownsRow base T 1 v n (ss.map Value.string)) (hb:Below w.heap.size w w'):
 aE5 c s w (.returned v) w':=by
 have h1:=aJe H hi;have h2:=H.1;obtain⟨A,k,rfl,Ab,_⟩:=aN.of_own Aa (by omega);exact⟨A,n,k,ss,rfl,Ab,h1,by omega,hb⟩
theorem oU:(Tryz.prog.info? 9).map (fun i=>(i.zero,i.size,i.bytes))=some (some (.string ByteArray.empty),1,16):=by kernel_rfl
theorem lQ(l:List ByteArray):∀ u∈l.map Value.string,u.oneCell'=true:=by
 intro u hu;simp only [List.mem_map] at hu;obtain⟨z,_,rfl⟩:=hu;rfl
theorem aE6(s:ByteArray) (x:Int) (c:UInt8) (hx:x=(c.toNat:Int)) (w:World) (hs:s.size<=1000):
 Calls Tryz.prog 156 #[.string s,.int .u8 x] w (aE5 c s w):=by
 have HX:=Hd hx;clear hx;obtain⟨i0,hi,Aq,Ao,Ap⟩:=info_parts oU;have An:=Hd (World.ownsRow_lit (base:=w.heap.size) (e:=9) (size:=1) w #[] 0 (Yh _) (by decide) rfl);have Am:=Hd ((Yg w.heap.size w).alloc (Yh _) (.cells #[] 9))
 go_enter Tryz.func156,Tryz.ntmps156
 go_wp2_with fail
 go_loopw [5,6,7] (fun v fr i wr=>∃ (ss:List ByteArray) (f k:Nat),i=.int .i64 k/\fr=.int .i64 f/\k<=s.size+1/\lE c s ss f k/\wr.ownsRow w.heap.size 9 1 v ss.length (ss.map Value.string)/\Below w.heap.size w wr)
  (fun _ _ i _=>s.size+1-(intOf i).toNat)
 case atStart=>exact⟨[],0,0,rfl,rfl,by omega,aHo,An.o,Am.o⟩
 case round=>
  obtain⟨ss,f,k,rfl,rfl,hk,Ac,Af,Ad⟩:=hrel;have HC:=Hd Ac;have Aw:=Ac.1;have HR:=Hd Af;have HB:=Hd Ad;have Av:=Ad.size
  by_cases Ar:k<=s.size
  . have Ax:=aL2 Ac Ar;clear Ac Af Ad An Am
    by_cases Ae:k=s.size
    . have Au:((k:Int)==(s.size:Int))=true:=by rw [Ae];simp
      have HE:=Hd Ae;clear Ae
      go_wp2_with (first | (at_builtin;refine wpList_append_own_at _ rfl _ _ 32 rfl w.heap.size 9 i0 (.string ByteArray.empty) 1 16 Tryz.underlying32 hi Aq Ao Ap rfl (by decide) _ _ _ rfl (HR.o.alloc _) ⟨wr.heap.size,0,none⟩ 1 1 [.string (s.extract f k)] rfl rfl (cell_one_new _ _ _) (lQ [s.extract f k]) (by unfold maxLen;omega) (by omega) (by simp;omega) ?_;intro v' w1 Ab Aa Ah Ag))
      have HO:=Hd Ab;have HG:=Hd Aa;have Al:=Aa.size
      simp at Al
      clear Ab Aa Ah Ag
      go_roundw
      case rel=>
       refine⟨ss++[s.extract f k],k+1,k+1,by go_num,by go_num,by omega,aHp HC.o HE.o,?_,?_⟩
       . rw [Yn,Zp];exact HO.o
       . exact(HB.o.alloc (by have:=HB.o.size;omega) _).grown HG.o (by have:=HB.o.size;simp;omega) (fun j hj=>(HR.o.lt j hj).1)
      case measure=>simp [intOf];omega
    . have Aj:k<s.size:=by omega
      have Au:((k:Int)==(s.size:Int))=false:=by rw [Xa];omega
      clear Ae
      by_cases Ai:s[k]'Aj=c
      . have As:(((s[k]'Aj).toNat:Int)==x)=true:=by rw [HX.o,Ai];simp
        have HE:=Hd Ai;clear Ai
        go_wp2_with (first | (at_builtin;refine wpList_append_own_at _ rfl _ _ 32 rfl w.heap.size 9 i0 (.string ByteArray.empty) 1 16 Tryz.underlying32 hi Aq Ao Ap rfl (by decide) _ _ _ rfl (HR.o.alloc _) ⟨wr.heap.size,0,none⟩ 1 1 [.string (s.extract f k)] rfl rfl (cell_one_new _ _ _) (lQ [s.extract f k]) (by unfold maxLen;omega) (by omega) (by simp;omega) ?_;intro v' w1 Ab Aa Ah Ag))
        have HO:=Hd Ab;have HG:=Hd Aa;have Al:=Aa.size
        simp at Al
        clear Ab Aa Ah Ag
        go_roundw
        case rel=>
         refine⟨ss++[s.extract f k],k+1,k+1,by go_num,by go_num,by omega,aJd HC.o Aj HE.o,?_,?_⟩
         . rw [Yn,Zp];exact HO.o
         . exact(HB.o.alloc (by have:=HB.o.size;omega) _).grown HG.o (by have:=HB.o.size;simp;omega) (fun j hj=>(HR.o.lt j hj).1)
        case measure=>simp [intOf];omega
      . have As:(((s[k]'Aj).toNat:Int)==x)=false:=by
         rw [HX.o,Xa];intro e;exact Ai (UInt8.toNat_inj.1 (by omega))
        have HE:=Hd Ai;clear Ai
        go_wp2_with fail
        go_roundw
        case rel=>exact⟨ss,f,k+1,by go_num,rfl,by omega,aL3 HC.o Aj HE.o,HR.o,HB.o⟩
        case measure=>simp [intOf];omega
  . have Ak:=Hd (aJf Ac Ar hk hs rfl Af Ad);clear Ac Af Ad An Am
    go_wp2_with fail
    go_ret
    exact Ak.o
end
section
open Go.RowKit
theorem tP{c:UInt8}:∀ {l p:List UInt8},p∈dB c l->p.length<=l.length
 | [],p,h=>by simp [dB] at h;simp [h]
 | b::l,p,h=>by
  unfold dB at h
  split at h
  . rcases Yu.1 h with h | h
    . simp [h]
    . have:=tP h;simp;omega
  . cases hc:dB c l with
    | nil=>rw [hc] at h;simp at h;simp [h]
    | cons q qs=>
     rw [hc] at h;rcases Yu.1 h with h | h
     . have:=tP (l:=l) (c:=c) (p:=q) (by rw [hc];simp);rw [h]
       simp
       omega
     . have:=tP (l:=l) (c:=c) (p:=p) (by rw [hc];simp [h])
       simp
       omega
theorem wM{c:UInt8}{s:ByteArray}{ss:List ByteArray}{k:Nat}(h:dB c s.data.toList=iM ss) (hk:k<ss.length):(ss[k]?.getD ByteArray.empty).size<=s.size:=by
 rw [Yk hk,Yt,Zl,Zl]
 apply tP (c:=c)
 rw [h];exact List.mem_map.2 ⟨_,Zg hk,rfl⟩
def uH(ss:List ByteArray) (k:Nat):Prop:=∀ j,j<k->eU (ss[j]?.getD ByteArray.empty).data.toList=true
section
variable {s:ByteArray}{ss:List ByteArray}{k:Nat}
theorem aGr(H:uH ss k) (h:eU (ss[k]?.getD ByteArray.empty).data.toList=true):uH ss (k+1):=fun j hj=>by
 rcases Nat.lt_or_ge j k with h1 | h1
 . exact H j h1
 . obtain rfl:j=k:=by omega
   exact h
theorem aL4(hc:dB 47 s.data.toList=iM ss) (H:uH ss k) (h:ss.length<=k):eI s.data.toList=true:=by
 unfold eI;rw [hc,Zf];intro p hp;obtain⟨x,hx,rfl⟩:=List.mem_map.1 hp;obtain⟨j,hj,rfl⟩:=Zi hx;have:=H j (by omega);rwa [Yk hj] at this
theorem aL5(hc:dB 47 s.data.toList=iM ss) (hk:k<ss.length) (h:eU (ss[k]?.getD ByteArray.empty).data.toList=false):eI s.data.toList=false:=by
 unfold eI;rw [hc]
 cases ha:(iM ss).all eU with
 | false=>rfl
 | true=>
  rw [Zf] at ha;have:=ha _ (List.mem_map.2 ⟨ss[k],Zg hk,rfl⟩);rw [Yk hk,Yt,this] at h
  cases h
end
section
variable {x:ByteArray}{ps:List ByteArray}{m:Nat}
theorem aJg(hc:dB 46 x.data.toList=iM ps) (h:2<ps.length):eU x.data.toList=false:=by
 unfold eU;rw [hc]
 match ps,h with
 | a::b::c::r,_=>rfl
theorem aL6(hc:dB 46 x.data.toList=iM ps) (h:aX (ps[0]?.getD ByteArray.empty).data.toList=false) (h0:0<ps.length):eU x.data.toList=false:=by
 unfold eU;rw [hc]
 match ps,h0 with
 | [a],_=>exact h
 | [a,b],_=>show(aX a.data.toList && _)=false;rw [show aX a.data.toList=false from h];rfl
 | a::b::c::r,_=>rfl
theorem aL7(hc:dB 46 x.data.toList=iM ps) (h:aX (ps[0]?.getD ByteArray.empty).data.toList=true) (h1:ps.length=1):eU x.data.toList=true:=by
 unfold eU;rw [hc]
 match ps,h1 with
 | [a],_=>exact h
theorem aL8(hc:dB 46 x.data.toList=iM ps) (h:aX (ps[0]?.getD ByteArray.empty).data.toList=true) (h2:ps.length=2):eU x.data.toList=gP (ps[1]?.getD ByteArray.empty).data.toList:=by
 unfold eU;rw [hc]
 match ps,h2 with
 | [a,b],_=>show(aX a.data.toList && gP b.data.toList)=_;rw [show aX a.data.toList=true from h];rfl
theorem aJh{c:UInt8}(hc:dB c x.data.toList=iM ps):0<ps.length:=by
 cases ps with
 | nil=>exact absurd hc (uD _ _)
 | cons a r=>simp
end
theorem aOv(s:ByteArray) (w:World) (hs:s.size<=1000):
 Calls Tryz.prog 105 #[.string s] w fun e w'=>e=.returned (.bool (eI s.data.toList))/\Below w.heap.size w w':=by
 have Ap:(47:Int)=((47:UInt8).toNat:Int):=by decide
 have Ak:(46:Int)=((46:UInt8).toNat:Int):=by decide
 have Al:=Hd fun(w:World)=>aE6 s 47 47 Ap w hs;have Aq:=Hd fun(x:ByteArray) (w:World) (hs:x.size<=1000)=>aE6 x 46 46 Ak w hs;clear Ap Ak
 go_enter Tryz.func105,Tryz.ntmps105
 go_wp2_with fail
 refine(Al.o _).mono ?_;rintro e w1 ⟨A,n,c,ss,rfl,Bc,Am,Bp,hb⟩;have Ad:=Hd hb;have Az:=Hd Am;have HL:=Hd Bc.len;clear hb Am Al
 go_wp2_with fail
 go_loopw [4] (fun i wr=>∃ k:Nat,k<=n/\i=.int .i64 k/\uH ss k/\Below w1.heap.size w1 wr) (fun i _=>n-(intOf i).toNat)
 case atStart=>exact⟨0,Yq _,rfl,fun j hj=>absurd hj (by omega),Yg _ _⟩
 case round=>
  obtain⟨k,hk,rfl,Be,Av⟩:=hrel;have HP:=Hd Be;have HB:=Hd Av;clear Be
  by_cases Aw:k<n
  . obtain⟨b,Bh,rfl,Bj,hc⟩:=Bc.at_ Aw;have Bg:=(Av.cell (p:=⟨b,Bh+k,none⟩) Bj).trans (hc k Aw);have Ax:k<ss.length:=by rw [HL.o];exact Aw
    have Bf:=wM Az.o Ax;have Ac:=Hd fun h=>aL5 Az.o Ax h;have Af:=Hd fun h=>aGr HP.o h;generalize hx:ss[k]?.getD ByteArray.empty=x at Bg Bf Ac Af;clear hc Av hx Ax
    go_wp2_with fail
    refine(Aq.o x _ (by omega)).mono ?_;rintro e w2 ⟨A2,n2,c2,ps,rfl,Ae,Aa,Bo,An⟩;have Ai:=Hd (HB.o.trans (An.mono HB.o.size));have h0:=aJh Aa;have Ar:=Ae.len;obtain⟨b2,Ay,rfl,Ba,Aj⟩:=Ae.at_ (i:=0) (by omega);have Ao:=Aj 0 (by omega);rw [Nat.add_zero] at Ao;have ha:=wM Aa h0;have Bl:0<n2:=by omega
    by_cases h3:2<n2
    . have HE:=Hd (Ac.o (aJg Aa (by omega)));clear Aa An Ae Aj Ao Ar
      go_wp2_with fail
      go_ret
      exact⟨aF HE.o.symm,Ad.o.trans (Ai.o.mono Ad.o.size)⟩
    . by_cases Ab:aX (ps[0]?.getD ByteArray.empty).data.toList=true
      . by_cases h1:n2<2
        . have HE:=Hd (Af.o (aL7 Aa Ab (by omega)));clear Aa An Ae Aj Ar;generalize ps[0]?.getD ByteArray.empty=a at Ao ha Ab
          go_wp2_with fail
          refine(iY a _ (by omega)).mono ?_;rw [Ab];rintro e w3 ⟨rfl,Ah⟩;have Ag:=Hd (Ai.o.trans (Ah.mono Ai.o.size));clear Ah Ab
          go_wp2_with fail
          go_roundw
          case rel=>exact⟨k+1,by omega,by go_num,HE.o,Ag.o⟩
          case measure=>simp [intOf];omega
        . have hE:=aL8 Aa Ab (by omega);have Bb:=Aj 1 (by omega);have hy:=wM Aa (k:=1) (by omega);clear Aa An Ae Aj Ar;generalize ps[0]?.getD ByteArray.empty=a at Ao ha Ab;generalize ps[1]?.getD ByteArray.empty=y at Bb hy hE;have HE:=Hd hE;clear hE
          go_wp2_with fail
          refine(iY a _ (by omega)).mono ?_;rw [Ab];rintro e w3 ⟨rfl,Ah⟩;have Ag:=Hd (Ai.o.trans (Ah.mono Ai.o.size));have Bb:=(Ah.cell (p:=⟨b2,Ay+1,none⟩) Ba).trans Bb;clear Ah Ab;have Br:decide ((n2:Int)<2)=false:=Zy (by omega);have Bn:1<n2:=by omega
          by_cases g1:y.size<1
          . have HF:=Hd (Ac.o (HE.o.trans (uG (.inl g1))))
            go_wp2_with fail
            go_ret
            exact⟨aF HF.o.symm,Ad.o.trans (Ag.o.mono Ad.o.size)⟩
          . by_cases g2:3<y.size
            . have HF:=Hd (Ac.o (HE.o.trans (uG (.inr g2))))
              go_wp2_with fail
              go_ret
              exact⟨aF HF.o.symm,Ad.o.trans (Ag.o.mono Ad.o.size)⟩
            . have Bk:decide ((y.size:Int)<1)=false:=Zy (by omega);have Bm:decide ((3:Int)<(y.size:Int))=false:=Zy (by omega);have Bq:decide ((2:Int)<(n2:Int))=false:=Zy (by omega);have y0:0<y.size:=by omega
              have y3:y.size<=3:=by omega
              clear g1 g2
              by_cases hf:((y[0]'y0).toNat:Int)=48
              . have HF:=Hd (Ac.o (HE.o.trans (aB1 y0 hf)));have Bi:(((y[0]'y0).toNat:Int)==48)=true:=by simpa using hf
                clear hf
                go_wp2_with fail
                go_ret
                exact⟨aF HF.o.symm,Ad.o.trans (Ag.o.mono Ad.o.size)⟩
              . have HF:=Hd hf;have Bi:(((y[0]'y0).toNat:Int)==48)=false:=by simpa using hf
                clear hf
                go_wp2_with fail
                go_loopw [7] (fun i wr=>∃ j:Nat,j<=y.size/\i=.int .i64 j/\wr=w3/\pG y j) (fun i _=>y.size-(intOf i).toNat)
                case atStart=>exact⟨0,Yq _,rfl,rfl,aAe⟩
                case round=>
                 obtain⟨j,hj,rfl,rfl,Bd⟩:=hrel;have HD:=Hd Bd;clear Bd
                 by_cases Au:j<y.size
                 . by_cases As:fM ((y[j]'Au).toNat:Int)=true
                   . go_wp2_with (go_at_call 130;refine(uT _ _).mono ?_;rintro e w' ⟨rfl,rfl⟩)
                     go_roundw
                     case rel=>exact⟨j+1,by omega,by go_num,(by first | trivial | rfl),aAf HD.o Au As⟩
                     case measure=>simp [intOf];omega
                   . have As:fM ((y[j]'Au).toNat:Int)=false:=by simpa using As
                     have HG:=Hd (Ac.o (HE.o.trans (yN Au As)))
                     go_wp2_with (go_at_call 130;refine(uT _ _).mono ?_;rintro e w' ⟨rfl,rfl⟩)
                     go_ret
                     exact⟨aF HG.o.symm,Ad.o.trans (Ag.o.mono Ad.o.size)⟩
                 . have HG:=Hd (Af.o (HE.o.trans (aEb y0 y3 HF.o fun i h=>HD.o i h (by omega))))
                   go_wp2_with fail
                   go_roundw
                   case rel=>exact⟨k+1,by omega,by go_num,HG.o,Ag.o⟩
                   case measure=>simp [intOf];omega
      . have Ab:aX (ps[0]?.getD ByteArray.empty).data.toList=false:=by simpa using Ab
        have HE:=Hd (Ac.o (aL6 Aa Ab h0));clear Aa An Ae Aj Ar;generalize ps[0]?.getD ByteArray.empty=a at Ao ha Ab
        go_wp2_with fail
        refine(iY a _ (by omega)).mono ?_;rw [Ab];rintro e w3 ⟨rfl,Ah⟩;have Ag:=Hd (Ai.o.trans (Ah.mono Ai.o.size));clear Ah Ab
        go_wp2_with fail
        go_ret
        exact⟨aF HE.o.symm,Ad.o.trans (Ag.o.mono Ad.o.size)⟩
  . go_wp2_with fail
    go_ret
    exact⟨aF (aL4 Az.o HP.o (by rw [HL.o];omega)).symm,Ad.o.trans (HB.o.mono Ad.o.size)⟩
end
section
open Go.RowKit Go.Sort
theorem aEd(A B:Option Addr) (n m c d:Nat) (ss tt:List ByteArray) (w:World) (hs:aN w A n ss) (ht:aN w B m tt):
 Calls Tryz.prog 162 #[.slice A n c,.slice B m d] w fun r w'=>r=.returned (.bool (dP ss tt))/\Below w.heap.size w w':=by
 have h1:=hs.len;have h2:=ht.len;have h3:=hs.max;have h4:=ht.max
 by_cases Ae:n=m
 . subst Ae
   go_enter Tryz.func162,Tryz.ntmps162
   go_wp2_with fail
   go_loopw [13] (fun i wr=>∃ k:Nat,k<=n/\i=.int .i64 k/\rZ ss tt k/\∃ p,wr=w.drewN p) (fun i _=>n-(intOf i).toNat)
   case atStart=>exact⟨0,Yq _,rfl,fun j hj=>absurd hj (by omega),0,rfl⟩
   case round=>
    obtain⟨k,hk,rfl,Ad,p,rfl⟩:=hrel;have HT:=Hd Ad;clear Ad
    by_cases Aa:k<n
    . obtain⟨b,Ag,rfl,hb,hc⟩:=hs.at_ Aa;obtain⟨b',Af,rfl,Ah,Ac⟩:=ht.at_ Aa;have e1:=hc k Aa;have e2:=Ac k Aa;have HN:=Hd fun h=>aAb HT.o h;have HF:=Hd fun h=>aC1 (a:=ss) (b:=tt) (k:=k) (by omega) (by omega) h;clear hc Ac;generalize ss[k]?.getD ByteArray.empty=x at e1 HN HF;generalize tt[k]?.getD ByteArray.empty=y at e2 HN HF
      by_cases he:(x.toList==y.toList)=true
      . have HN:=Hd (HN.o he);have Ab:(x.toList != y.toList)=false:=by simp only [bne,he];rfl
        go_wp2_with fail
        go_quiet (fail)
        go_wp2_with fail
        go_roundw
        case rel=>exact⟨k+1,by omega,by go_num,HN.o,_,rfl⟩
        case measure=>simp [intOf];omega
      . have he:(x.toList==y.toList)=false:=by simpa using he
        have HF:=Hd (HF.o he);have Ab:(x.toList != y.toList)=true:=by simp only [bne,he];rfl
        go_wp2_with fail
        go_quiet (fail)
        go_wp2_with fail
        go_ret
        exact⟨aF HF.o.symm,aY (aY (Yg _ _) _) _⟩
    . have HY:=Hd (aBz (by omega) HT.o (by omega))
      go_wp2_with fail
      go_ret
      exact⟨aF HY.o.symm,aY (Yg _ _) _⟩
 . have hF:=Hd (aBy (a:=ss) (b:=tt) (by omega));have Ab:((n:Int) != (m:Int))=true:=by rw [bne_iff_ne];omega
   go_enter Tryz.func162,Tryz.ntmps162
   go_wp2_with fail
   go_ret
   exact⟨aF hF.o.symm,Yg _ _⟩
def pE(x y:Ex):Bool:=(x.k==y.k) && (x.n==y.n) && (x.s.toList==y.s.toList) && (x.op==y.op) && dP x.arms y.arms
theorem aL9(x:Ex) (A:Option Addr) (ca:Nat) (B:Option Addr) (cb:Nat) (y:Ex) (A':Option Addr) (Aj:Nat) (B':Option Addr) (Al:Nat) (w:World) (hr:aJ w x A B) (Ai:aJ w y A' B'):
 Calls Tryz.prog 114 #[.agg (aE x A ca B cb),.agg (aE y A' Aj B' Al)] w fun e w'=>e=.returned (.bool (pE x y))/\Below w.heap.size w w':=by
 have HF:=Hd fun w1 h=>aHk w x y A A' ca Aj B B' cb Al w1 h hr Ai;have Am:=Hd fun w1 (h:Below w.heap.size w w1)=>aEd A A' x.arms.length y.arms.length ca Aj x.arms y.arms w1 (hr.below h).arms (Ai.below h).arms;have HS:=Hd (show pE x y=((x.k==y.k) && (x.n==y.n) && (x.s.toList==y.s.toList) && (x.op==y.op) && dP x.arms y.arms) from rfl);clear hr Ai;unfold aE at HF ⊢;generalize pE x y=Ah at *;generalize x.k=k1 at *;generalize y.k=k2 at *;generalize x.n=m1 at *;generalize y.n=m2 at *;generalize x.s=s1 at *;generalize y.s=s2 at *;generalize x.op=o1 at *;generalize y.op=o2 at *;generalize dP x.arms y.arms=nb at *;generalize x.arms.length=a1 at *;generalize y.arms.length=a2 at *;generalize x.subs.length=n1 at *;generalize y.subs.length=n2 at *;generalize hk:(k1==k2)=bk at *;generalize hm:(m1==m2)=bm at *;generalize hs:(s1.toList==s2.toList)=bs at *;generalize ho:(o1==o2)=bo at *
 cases bk with
 | false=>
  have HN:=Hd (show Ah=false by rw [HS.o];simp)
  go_enter Tryz.func114,Tryz.ntmps114
  go_upto_region 1 with(fail)
  generalize Ad:(w.alloc _).alloc _=w1;obtain⟨Ac,hg,Af,Ag,Ab,Aa⟩:=HF.o w1 Ad;have Ae:=Hd Ac;have q0:=Ab w1 (Yg _ _) 0;have p0:=Aa w1 (Yg _ _) 0;have q1:=Ab w1 (Yg _ _) 1;have p1:=Aa w1 (Yg _ _) 1;have q2:=Ab w1 (Yg _ _) 2;have p2:=Aa w1 (Yg _ _) 2;have q3:=Ab w1 (Yg _ _) 3;have p3:=Aa w1 (Yg _ _) 3;have q4:=Ab w1 (Yg _ _) 4;have p4:=Aa w1 (Yg _ _) 4;have q5:=Ab w1 (Yg _ _) 5;have p5:=Aa w1 (Yg _ _) 5;clear Ab Aa Ac Af Ag Ad HF
  go_wp2_with fail
  go_ret
  exact⟨aF HN.o.symm,Ae.o⟩
 | true=>
  cases bm with
  | false=>
   have HN:=Hd (show Ah=false by rw [HS.o];simp)
   go_enter Tryz.func114,Tryz.ntmps114
   go_upto_region 1 with(fail)
   generalize Ad:(w.alloc _).alloc _=w1;obtain⟨Ac,hg,Af,Ag,Ab,Aa⟩:=HF.o w1 Ad;have Ae:=Hd Ac;have q0:=Ab w1 (Yg _ _) 0;have p0:=Aa w1 (Yg _ _) 0;have q1:=Ab w1 (Yg _ _) 1;have p1:=Aa w1 (Yg _ _) 1;have q2:=Ab w1 (Yg _ _) 2;have p2:=Aa w1 (Yg _ _) 2;have q3:=Ab w1 (Yg _ _) 3;have p3:=Aa w1 (Yg _ _) 3;have q4:=Ab w1 (Yg _ _) 4;have p4:=Aa w1 (Yg _ _) 4;have q5:=Ab w1 (Yg _ _) 5;have p5:=Aa w1 (Yg _ _) 5;clear Ab Aa Ac Af Ag Ad HF
   go_wp2_with fail
   go_ret
   exact⟨aF HN.o.symm,Ae.o⟩
  | true=>
   cases bs with
   | false=>
    have HN:=Hd (show Ah=false by rw [HS.o];simp)
    go_enter Tryz.func114,Tryz.ntmps114
    go_upto_region 1 with(fail)
    generalize Ad:(w.alloc _).alloc _=w1;obtain⟨Ac,hg,Af,Ag,Ab,Aa⟩:=HF.o w1 Ad;have Ae:=Hd Ac;have q0:=Ab w1 (Yg _ _) 0;have p0:=Aa w1 (Yg _ _) 0;have q1:=Ab w1 (Yg _ _) 1;have p1:=Aa w1 (Yg _ _) 1;have q2:=Ab w1 (Yg _ _) 2;have p2:=Aa w1 (Yg _ _) 2;have q3:=Ab w1 (Yg _ _) 3;have p3:=Aa w1 (Yg _ _) 3;have q4:=Ab w1 (Yg _ _) 4;have p4:=Aa w1 (Yg _ _) 4;have q5:=Ab w1 (Yg _ _) 5;have p5:=Aa w1 (Yg _ _) 5;clear Ab Aa Ac Af Ag Ad HF
    go_wp2_with fail
    go_ret
    exact⟨aF HN.o.symm,Ae.o⟩
   | true=>
    cases bo with
    | false=>
     have HN:=Hd (show Ah=false by rw [HS.o];simp)
     go_enter Tryz.func114,Tryz.ntmps114
     go_upto_region 1 with(fail)
     generalize Ad:(w.alloc _).alloc _=w1;obtain⟨Ac,hg,Af,Ag,Ab,Aa⟩:=HF.o w1 Ad;have Ae:=Hd Ac;have q0:=Ab w1 (Yg _ _) 0;have p0:=Aa w1 (Yg _ _) 0;have q1:=Ab w1 (Yg _ _) 1;have p1:=Aa w1 (Yg _ _) 1;have q2:=Ab w1 (Yg _ _) 2;have p2:=Aa w1 (Yg _ _) 2;have q3:=Ab w1 (Yg _ _) 3;have p3:=Aa w1 (Yg _ _) 3;have q4:=Ab w1 (Yg _ _) 4;have p4:=Aa w1 (Yg _ _) 4;have q5:=Ab w1 (Yg _ _) 5;have p5:=Aa w1 (Yg _ _) 5;clear Ab Aa Ac Af Ag Ad HF
     go_wp2_with fail
     go_ret
     exact⟨aF HN.o.symm,Ae.o⟩
    | true=>
     have HN:=Hd (show Ah=nb by rw [HS.o];simp)
     go_enter Tryz.func114,Tryz.ntmps114
     go_upto_region 1 with(fail)
     generalize Ad:(w.alloc _).alloc _=w1;obtain⟨Ac,hg,Af,Ag,Ab,Aa⟩:=HF.o w1 Ad;have Ae:=Hd Ac;have q0:=Ab w1 (Yg _ _) 0;have p0:=Aa w1 (Yg _ _) 0;have q1:=Ab w1 (Yg _ _) 1;have p1:=Aa w1 (Yg _ _) 1;have q2:=Ab w1 (Yg _ _) 2;have p2:=Aa w1 (Yg _ _) 2;have q3:=Ab w1 (Yg _ _) 3;have p3:=Aa w1 (Yg _ _) 3;have q4:=Ab w1 (Yg _ _) 4;have p4:=Aa w1 (Yg _ _) 4;have q5:=Ab w1 (Yg _ _) 5;have p5:=Aa w1 (Yg _ _) 5;have Ao:=Hd (Am.o w1 Ac);clear Ab Aa Ac Af Ag Ad HF
     go_wp2_with fail
     refine Ao.o.mono ?_;rintro r w2 ⟨rfl,Ak⟩;have An:=Hd (Ae.o.trans (Ak.mono Ae.o.size));clear Ak
     go_wp2_with fail
     go_ret
     exact⟨aF HN.o.symm,An.o⟩
end
section
open Go.RowKit Go.Sort
end
end Go.Proofs.YtegjgiofmpolnaaGreat
