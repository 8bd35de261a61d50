/- A part of the proof. Conditions: each theorem's own. -/
import Derived.Test.YtkbpdoomhfkngaaGreatC02
namespace Go.Proofs.YtkbpdoomhfkngaaGreat
set_option linter.unusedVariables false
set_option linter.unusedSimpArgs false
set_option maxRecDepth 100000
set_option maxHeartbeats 40000000
section
open Go.RowKit Go.Maps Go.WideMaps Go.Sort
theorem Yw:type_of% @List.append_assoc:=@List.append_assoc
theorem Xh:type_of% @List.map_cons:=@List.map_cons
end
section
open Go.RowKit
section
variable {P:Int->Bool}{s:ByteArray}
theorem vD(s:ByteArray)(k:Nat)(h:k<s.size):s.data.toList[k]'(by rw[<-Zm];exact h)=s[k]'h:=rfl
theorem xV(h:s.size<1\/12<s.size):fM P s.data.toList=false:=by
 have:¬(1<=s.data.toList.length/\s.data.toList.length<=12):=by rw[<-Zm];omega
 simp only[fM,Zz this,Bool.false_and]
theorem bFp(s:ByteArray)(k:Nat)(h:k<s.size):s.data.toList[k]?=some (s[k]'h):=by
 rw[<-vD s k h,Yk]
theorem yM(h:0<s.size):∃F,s.data.toList=s[0]'h::F:=by
 have hl:=bFp s 0 h;generalize s[0]'h=c at hl⊢;cases e:s.data.toList with
 |nil=>rw[e]at hl;simp at hl
 |cons d F=>rw[e]at hl;simp at hl;exact⟨F,by rw[hl]⟩
theorem aGt(h:0<s.size)(hp:P ((s[0]'h).toNat:Int)=false):fM P s.data.toList=false:=by
 obtain⟨F,e⟩:=yM h;rw[e];simp only[fM,hp,Bool.and_false,Bool.false_and]
theorem yN{k:Nat}(h:k<s.size)(hp:dZ ((s[k]'h).toNat:Int)=false):fM P s.data.toList=false:=by
 have hm:s[k]'h∈s.data.toList:=aPo;cases hn:fM P s.data.toList with
 |false=>rfl
 |true=>rw[aVu hn _ hm]at hp;cases hp
theorem aI7(h1:0<s.size)(h2:s.size<=12)(hp:P ((s[0]'h1).toNat:Int)=true)(ha:∀k (h:k<s.size),dZ ((s[k]'h).toNat:Int)=true):fM P s.data.toList=true:=by
 have hz:=Zm s;have Bh:s.data.toList.all (fun c=>dZ (c.toNat:Int))=true:=by
  exact aNh
 have Aq:decide (1<=s.data.toList.length/\s.data.toList.length<=12)=true:=Zy aA;obtain⟨F,e⟩:=yM h1;unfold fM;rw[Bh,Aq,e];simp only[hp,Bool.and_true]
end
theorem aBg{x:Int}(h:128<=x):dZ x=false:=by
 cases hn:dZ x with
 |false=>rfl
 |true=>have:=aYm hn;omega
theorem aC2{P:Program}(w:World)(s:ByteArray)(pos:Nat)(h:pos<s.size):
 ∃(x:Int)(q:Nat),(∀ty,(Instr.next (.pointer (some ⟨w.heap.size,0,none⟩)) true ty).run P (w.iter s pos)=.ok (.tuple #[.bool true,.int .i64 pos,.int .i32 x]) (w.iter s q))/\
  ((x=((s[pos]'h).toNat:Int)/\q=pos+1)\/(128<=x/\128<=(s[pos]'h).toNat/\pos<q)):=by
 by_cases ha:(s[pos]'h).toNat<128;· exact⟨_,_,fun ty=>run_next_ascii (P:=P) w s pos ty h ha,.inl ⟨rfl,rfl⟩⟩
 . have:=decode_high s pos h aA
   exact⟨_,_,fun ty=>run_next_any (P:=P) w s pos ty h,.inr ⟨by omega,by omega,by omega⟩⟩
theorem sO(w:World)(s:ByteArray)(q:Nat):Below w.heap.size w (w.iter s q):=(Yg _ _).alloc (Yh _) _
def tH(P:Int->Bool)(s:ByteArray)(pos:Nat):Prop:=
 (∀k (h:k<s.size),k<pos->dZ ((s[k]'h).toNat:Int)=true)/\(0<pos->∀h:0<s.size,P ((s[0]'h).toNat:Int)=true)
section
variable {P:Int->Bool}{s:ByteArray}{pos q:Nat}{x:Int}
theorem aGb:tH P s 0:=⟨fun k h hk=>absurd hk aA,fun h=>absurd h aA⟩
theorem aBz(hp:pos<s.size)(hx:(x=((s[pos]'hp).toNat:Int)/\q=pos+1)\/(128<=x/\128<=(s[pos]'hp).toNat/\pos<q)):pos<q:=by
 rcases hx with⟨_,h⟩|⟨_,_,h⟩<;>omega
theorem xD(H:tH P s pos)(hp:pos<s.size)(hx:(x=((s[pos]'hp).toNat:Int)/\q=pos+1)\/(128<=x/\128<=(s[pos]'hp).toNat/\pos<q))
 (h1:pos=0->P x=true)(h2:dZ x=true):q<=s.size/\tH P s q:=by
 rcases hx with⟨rfl,rfl⟩|⟨h,_,_⟩
 . refine⟨by omega,fun k hk Ah=>?_,fun _ h0=>?_⟩
   . rcases Nat.lt_or_ge k pos with h|h;· exact H.1 k hk h
     . obtain rfl:k=pos:=by omega
       exact h2
   . rcases Nat.eq_zero_or_pos pos with h|h
     . subst h;exact h1 rfl
     . exact H.2 h h0
 . rw[aBg h]at h2;cases h2
theorem aGu(hp:pos<s.size)(hx:(x=((s[pos]'hp).toNat:Int)/\q=pos+1)\/(128<=x/\128<=(s[pos]'hp).toNat/\pos<q))(h2:dZ x=false):fM P s.data.toList=false:=by
 rcases hx with⟨rfl,rfl⟩|⟨_,h,_⟩;· exact yN hp h2
 . exact yN hp (aBg aA)
theorem aSy(hz:pos=0)(hp:pos<s.size)(hx:(x=((s[pos]'hp).toNat:Int)/\q=pos+1)\/(128<=x/\128<=(s[pos]'hp).toNat/\pos<q))(h2:P x=false):fM P s.data.toList=false:=by
 subst hz;rcases hx with⟨rfl,rfl⟩|⟨_,h,_⟩;· exact aGt hp h2
 . exact yN hp (aBg aA)
theorem aTt(H:tH P s pos)(h0:0<s.size)(Fo:s.size<=12)(he:s.size<=pos):fM P s.data.toList=true:=
 aI7 h0 Fo (H.2 aA h0) fun k h=>H.1 k h aA
end
theorem aDk(K:FuncId)(P:Int->Bool)(hK:(K=133/\P=gR)\/(K=165/\P=jG))(s:ByteArray)(w:World)(hs:s.size<=9223372036854775807):
 Calls Tryz.prog 132 #[.string s,.func (.func K) #[] #[]] w fun e w'=>e=.returned (.bool (fM P s.data.toList))/\Below w.heap.size w w':=by
 by_cases h1:s.size<1
 . go_in
   go_wp2;go_ret;exact⟨aL (xV (.inl h1)).symm,Yg _ _⟩
 . by_cases h2:12<s.size
   . go_in
     go_wp2;go_ret;exact⟨aL (xV (.inr h2)).symm,Yg _ _⟩
   . have Kj:decide ((s.size:Int)<1)=false:=Zz aA;have Bp:decide ((12:Int)<(s.size:Int))=false:=Zz aA;have h0:0<s.size:=aA;have Fo:s.size<=12:=aA;clear h1 h2;rcases hK with⟨rfl,rfl⟩|⟨rfl,rfl⟩
     . go_in
       go_wp2_with fail;clear Kj Bp;go_loopw [5] (fun _ wr=>∃pos:Nat,pos<=s.size/\wr=w.iter s pos/\tH gR s pos) (fun _ wr=>s.size-wr.iterPos w.heap.size)
       case atStart=>exact⟨0,by omega,rfl,aGb⟩
       case round=>
        obtain⟨pos,Bx,rfl,hrel⟩:=hrel;have HR:=Hd hrel;clear hrel;by_cases hp:pos<s.size
        . obtain⟨x,q,Ba,hx⟩:=aC2 (P:=Tryz.prog) w s pos hp;have HX:=Hd hx;clear hx;have Aq:((pos:Int)==0)=decide (pos=0):=aFa;generalize (pos:Int)=pi at Ba Aq;by_cases hz:pos=0
          . have Aq:(pi==0)=true:=by rw[Aq];exact Zy hz
            have HZ:=Hd hz;clear hz;by_cases Ju:gR x=true
            . by_cases Gq:dZ x=true
              . go_wp2_with (first|(go_at_call 133;refine(rI x _).mono ?_;rintro e w' ⟨rfl,rfl⟩)|(go_at_call 166;refine(pR x _).mono ?_;rintro e w' ⟨rfl,rfl⟩));exact aMm
              . exact aRq
            . have Ju:gR x=false:=by simpa using Ju
              go_wp2_with (first|(go_at_call 133;refine(rI x _).mono ?_;rintro e w' ⟨rfl,rfl⟩)|(go_at_call 166;refine(pR x _).mono ?_;rintro e w' ⟨rfl,rfl⟩));exact aOc
          . have Aq:(pi==0)=false:=by rw[Aq];exact Zz hz
            have HZ:=Hd hz;clear hz;by_cases Gq:dZ x=true
            . go_wp2_with (first|(go_at_call 133;refine(rI x _).mono ?_;rintro e w' ⟨rfl,rfl⟩)|(go_at_call 166;refine(pR x _).mono ?_;rintro e w' ⟨rfl,rfl⟩));exact aMb
            . exact aRq
        . exact aRy
     . go_in
       go_wp2_with fail;clear Kj Bp;go_loopw [5] (fun _ wr=>∃pos:Nat,pos<=s.size/\wr=w.iter s pos/\tH jG s pos) (fun _ wr=>s.size-wr.iterPos w.heap.size)
       case atStart=>exact⟨0,by omega,rfl,aGb⟩
       case round=>
        obtain⟨pos,Bx,rfl,hrel⟩:=hrel;have HR:=Hd hrel;clear hrel;by_cases hp:pos<s.size
        . obtain⟨x,q,Ba,hx⟩:=aC2 (P:=Tryz.prog) w s pos hp;have HX:=Hd hx;clear hx;have Aq:((pos:Int)==0)=decide (pos=0):=aFa;generalize (pos:Int)=pi at Ba Aq;by_cases hz:pos=0
          . have Aq:(pi==0)=true:=by rw[Aq];exact Zy hz
            have HZ:=Hd hz;clear hz;by_cases Ju:jG x=true
            . by_cases Gq:dZ x=true
              . go_wp2_with (first|(go_at_call 165;refine(tC x _).mono ?_;rintro e w' ⟨rfl,rfl⟩)|(go_at_call 166;refine(pR x _).mono ?_;rintro e w' ⟨rfl,rfl⟩));exact aMm
              . exact aRr
            . have Ju:jG x=false:=by simpa using Ju
              go_wp2_with (first|(go_at_call 165;refine(tC x _).mono ?_;rintro e w' ⟨rfl,rfl⟩)|(go_at_call 166;refine(pR x _).mono ?_;rintro e w' ⟨rfl,rfl⟩));exact aOc
          . have Aq:(pi==0)=false:=by rw[Aq];exact Zz hz
            have HZ:=Hd hz;clear hz;by_cases Gq:dZ x=true
            . go_wp2_with (first|(go_at_call 165;refine(tC x _).mono ?_;rintro e w' ⟨rfl,rfl⟩)|(go_at_call 166;refine(pR x _).mono ?_;rintro e w' ⟨rfl,rfl⟩));exact aMb
            . exact aRr
        . exact aRy
end
section
open Go.RowKit
theorem jJ(s:ByteArray)(w:World)(hs:s.size<=9223372036854775807):
 Calls Tryz.prog 98 #[.string s] w fun e w'=>e=.returned (.bool (bE s.data.toList))/\Below w.heap.size w w':=by
 by_cases h1:fM gR s.data.toList=true
 . have HE:=Hd (show(!nO s.data.toList)=bE s.data.toList by simp[bE,h1]);go_in
   go_wp2_with fail;refine(aDk _ gR (.inl ⟨rfl,rfl⟩) s _ hs).mono ?_;rintro e w' ⟨rfl,hb⟩;have HB:=Hd hb;clear hb;go_wp2_with fail;refine(bFn s _).mono ?_;rintro e w' ⟨rfl,rfl⟩;go_wp2_with fail;go_ret;exact⟨aL HE.o,HB.o⟩
 . have h1:fM gR s.data.toList=false:=by simpa using h1
   have HE:=Hd (show false=bE s.data.toList by simp[bE,h1]);go_in
   go_wp2_with fail;refine(aDk _ gR (.inl ⟨rfl,rfl⟩) s _ hs).mono ?_;exact aNz
theorem vL(s:ByteArray)(w:World)(hs:s.size<=9223372036854775807):
 Calls Tryz.prog 131 #[.string s] w fun e w'=>e=.returned (.bool (eU s.data.toList))/\Below w.heap.size w w':=by
 have HE:=Hd (show fM jG s.data.toList=eU s.data.toList from rfl);go_in
 go_wp2_with fail;refine(aDk _ jG (.inr ⟨rfl,rfl⟩) s _ hs).mono ?_;rintro e w' ⟨rfl,hb⟩;have HB:=Hd hb;clear hb;go_wp2_with fail;go_ret;exact⟨aL HE.o,HB.o⟩
def sK(a b x:Int):Bool:=decide (a<=x/\x<=b)
theorem vX(x a b:Int)(w:World):Calls Tryz.prog 175 #[.int .u8 x,.int .u8 a,.int .u8 b] w fun e w'=>e=.returned (.bool (sK a b x))/\w=w':=by
 by_cases h1:a<=x
 all_goals
  go_in
  go_wp2;go_ret;exact⟨aL (by rw[Zn];simp[sK,h1]<;>omega),rfl⟩
theorem zE(x:Int)(w:World):Calls Tryz.prog 175 #[.int .u8 x,.int .u8 97,.int .u8 122] w fun e w'=>e=.returned (.bool (gR x))/\w=w':=vX x 97 122 w
theorem aDl(x:Int)(w:World):Calls Tryz.prog 175 #[.int .u8 x,.int .u8 65,.int .u8 90] w fun e w'=>e=.returned (.bool (jG x))/\w=w':=vX x 65 90 w
theorem zF(x:Int)(w:World):Calls Tryz.prog 175 #[.int .u8 x,.int .u8 48,.int .u8 57] w fun e w'=>e=.returned (.bool (gI x))/\w=w':=vX x 48 57 w
theorem xI{s:ByteArray}{k:Nat}(H:∀j (h:j<s.size),j<k->dZ ((s[j]'h).toNat:Int)=true)(Ah:k<s.size)(hx:dZ ((s[k]'Ah).toNat:Int)=true):
 ∀j (h:j<s.size),j<k+1->dZ ((s[j]'h).toNat:Int)=true:=fun j h hj=>by
 rcases Nat.lt_or_ge j k with h1|h1;· exact H j h h1
 . obtain rfl:j=k:=by omega
   exact hx
theorem aC3(a b:Int)(s:ByteArray)(w:World)(hs:s.size<=9223372036854775807):
 Calls Tryz.prog 151 #[.string s,.int .u8 a,.int .u8 b] w fun e w'=>e=.returned (.bool (fM (sK a b) s.data.toList))/\w=w':=by
 by_cases h1:s.size<1
 . go_in
   go_wp2_with fail;go_ret;exact⟨aL (xV (.inl h1)).symm,rfl⟩
 . by_cases h2:12<s.size
   . go_in
     go_wp2_with fail;go_ret;exact⟨aL (xV (.inr h2)).symm,rfl⟩
   . have Kj:decide ((s.size:Int)<1)=false:=Zz aA;have Bp:decide ((12:Int)<(s.size:Int))=false:=Zz aA;have h0:0<s.size:=aA;have Fo:s.size<=12:=aA;clear h1 h2;by_cases hf:sK a b ((s[0]'h0).toNat:Int)=true
     . have HF:=Hd hf;go_in
       go_wp2_with fail;refine(vX _ a b _).mono ?_;rintro e w' ⟨rfl,rfl⟩;go_wp2_with fail;clear Kj Bp hf;go_loop [7] (fun i=>∃k:Nat,k<=s.size/\i=.int .i64 k/\∀j (h:j<s.size),j<k->dZ ((s[j]'h).toNat:Int)=true) (fun i=>s.size-(intOf i).toNat)
       case atStart=>exact⟨0,by omega,rfl,fun j _ hj=>absurd hj aA⟩
       case round=>
        obtain⟨k,hk,rfl,hrel⟩:=hrel;have HR:=Hd hrel;clear hrel;by_cases Ah:k<s.size
        . by_cases Ju:gR ((s[k]'Ah).toNat:Int)=true
          . go_wp2_with (go_at_call 175;refine(zE _ _).mono ?_;rintro e w' ⟨rfl,rfl⟩);go_round
            case rel=>exact⟨k+1,by omega,by go_num,xI HR.o Ah (by simp[dZ,Ju])⟩
            case measure=>simp[intOf];omega
          . have Ju:gR ((s[k]'Ah).toNat:Int)=false:=by simpa using Ju
            by_cases Gq:jG ((s[k]'Ah).toNat:Int)=true
            . go_wp2_with (first|(go_at_call 175;(with_reducible refine(zE _ _).mono ?_);rintro e w' ⟨rfl,rfl⟩)|(go_at_call 175;(with_reducible refine(aDl _ _).mono ?_);rintro e w' ⟨rfl,rfl⟩));go_round
              case rel=>exact⟨k+1,by omega,by go_num,xI HR.o Ah (by simp[dZ,Gq])⟩
              case measure=>simp[intOf];omega
            . have Gq:jG ((s[k]'Ah).toNat:Int)=false:=by simpa using Gq
              by_cases Aq:gI ((s[k]'Ah).toNat:Int)=true
              . go_wp2_with (first|(go_at_call 175;(with_reducible refine(zE _ _).mono ?_);rintro e w' ⟨rfl,rfl⟩)|(go_at_call 175;(with_reducible refine(aDl _ _).mono ?_);rintro e w' ⟨rfl,rfl⟩)|(go_at_call 175;(with_reducible refine(zF _ _).mono ?_);rintro e w' ⟨rfl,rfl⟩));go_round
                case rel=>exact⟨k+1,by omega,by go_num,xI HR.o Ah (by simp[dZ,Aq])⟩
                case measure=>simp[intOf];omega
              . have Aq:gI ((s[k]'Ah).toNat:Int)=false:=by simpa using Aq
                have HN:=Hd (show dZ ((s[k]'Ah).toNat:Int)=decide (((s[k]'Ah).toNat:Int)=95)by simp[dZ,Ju,Gq,Aq]);go_wp2_with (first|(go_at_call 175;(with_reducible refine(zE _ _).mono ?_);rintro e w' ⟨rfl,rfl⟩)|(go_at_call 175;(with_reducible refine(aDl _ _).mono ?_);rintro e w' ⟨rfl,rfl⟩)|(go_at_call 175;(with_reducible refine(zF _ _).mono ?_);rintro e w' ⟨rfl,rfl⟩))
                . have An:(((s[k]'Ah).toNat:Int) !=95)=true:=by assumption
                  have Hr:dZ ((s[k]'Ah).toNat:Int)=false:=by
                   rw[HN.o];exact Zz (by simpa using An)
                  go_ret;exact⟨aL (yN Ah Hr).symm,rfl⟩
                . have An:(((s[k]'Ah).toNat:Int) !=95)=false:=by assumption
                  have Ea:dZ ((s[k]'Ah).toNat:Int)=true:=by
                   rw[HN.o];exact Zy (by simpa using An)
                  go_round
                  case rel=>exact⟨k+1,by omega,by go_num,xI HR.o Ah Ea⟩
                  case measure=>simp[intOf];omega
        . go_wp2_with fail;go_ret;exact⟨aL (aI7 h0 Fo HF.o fun j h=>HR.o j h aA).symm,rfl⟩
     . have hf:sK a b ((s[0]'h0).toNat:Int)=false:=by simpa using hf
       go_in
       go_wp2_with fail;refine(vX _ a b _).mono ?_;rintro e w' ⟨rfl,rfl⟩;go_wp2_with fail;go_ret;exact⟨aL (aGt h0 hf).symm,rfl⟩
theorem lR(s:ByteArray)(w:World)(hs:s.size<=9223372036854775807):
 Calls Tryz.prog 121 #[.string s] w fun e w'=>e=.returned (.bool (bE s.data.toList))/\Below w.heap.size w w':=by
 have HS:=Hd (show fM (sK 97 122) s.data.toList=fM gR s.data.toList from rfl);by_cases h1:fM gR s.data.toList=true
 . have HE:=Hd (show(!nO s.data.toList)=bE s.data.toList by simp[bE,h1]);go_in
   go_wp2_with fail;refine(aC3 97 122 s _ hs).mono ?_;rw[HS.o];rintro e w' ⟨rfl,rfl⟩;go_wp2_with fail;refine(bCd s _).mono ?_;exact aNz
 . have h1:fM gR s.data.toList=false:=by simpa using h1
   have HE:=Hd (show false=bE s.data.toList by simp[bE,h1]);go_in
   go_wp2_with fail;refine(aC3 97 122 s _ hs).mono ?_;rw[HS.o];rintro e w' ⟨rfl,rfl⟩;go_wp2_with fail;go_ret;exact⟨aL HE.o,Yg _ _⟩
theorem vE(s:ByteArray)(w:World)(hs:s.size<=9223372036854775807):
 Calls Tryz.prog 122 #[.string s] w fun e w'=>e=.returned (.bool (eU s.data.toList))/\w=w':=by
 have HS:=Hd (show fM (sK 65 90) s.data.toList=eU s.data.toList from rfl);go_in
 go_wp2_with fail;refine(aC3 65 90 s _ hs).mono ?_;rw[HS.o];rintro e w' ⟨rfl,rfl⟩;go_wp2_with fail;go_ret;exact⟨rfl,rfl⟩
section
variable {s:ByteArray}
theorem yO(h:s.size<1\/3<s.size):iJ s.data.toList=false:=by
 have:¬(1<=s.data.toList.length/\s.data.toList.length<=3):=by rw[<-Zm];omega
 simp only[iJ,Zz this,Bool.false_and]
theorem aH3(h:0<s.size)(hp:((s[0]'h).toNat:Int)=48):iJ s.data.toList=false:=by
 obtain⟨F,e⟩:=yM h;have Aq:s[0]'h=48:=UInt8.toNat_inj.1 (by simpa using (by omega:(s[0]'h).toNat=48));rw[e];simp[iJ,Aq]
theorem aDm{k:Nat}(h:k<s.size)(hp:gI ((s[k]'h).toNat:Int)=false):iJ s.data.toList=false:=by
 have hm:s[k]'h∈s.data.toList:=aPo;cases hn:iJ s.data.toList with
 |false=>rfl
 |true=>
  simp only[iJ,Ys,Zg]at hn;rw[hn.2 _ hm]at hp;cases hp
theorem aKf(h1:0<s.size)(h2:s.size<=3)(hp:¬((s[0]'h1).toNat:Int)=48)(ha:∀k (h:k<s.size),gI ((s[k]'h).toNat:Int)=true):iJ s.data.toList=true:=by
 have hz:=Zm s;have Bh:s.data.toList.all (fun c=>gI (c.toNat:Int))=true:=by
  exact aNh
 have Aq:decide (1<=s.data.toList.length/\s.data.toList.length<=3)=true:=Zy aA;obtain⟨F,e⟩:=yM h1;have Bp:¬s[0]'h1=48:=fun e=>hp (by rw[e];rfl);unfold iJ;rw[Bh,Aq,e];simp[Bp]
end
theorem aGc{x:Int}(h:128<=x):gI x=false:=by
 simp[gI];omega
def rR(s:ByteArray)(pos:Nat):Prop:=∀k (h:k<s.size),k<pos->gI ((s[k]'h).toNat:Int)=true
theorem aGd{s:ByteArray}:rR s 0:=fun k h hk=>absurd hk aA
theorem aGe{s:ByteArray}{k:Nat}(H:rR s k)(Ah:k<s.size)(hx:gI ((s[k]'Ah).toNat:Int)=true):rR s (k+1):=fun j h hj=>by
 rcases Nat.lt_or_ge j k with h1|h1;· exact H j h h1
 . obtain rfl:j=k:=by omega
   exact hx
theorem aGf{s:ByteArray}{pos q:Nat}{x:Int}(H:rR s pos)(hp:pos<s.size)(hx:(x=((s[pos]'hp).toNat:Int)/\q=pos+1)\/(128<=x/\128<=(s[pos]'hp).toNat/\pos<q))
 (h2:gI x=true):q<=s.size/\rR s q:=by
 rcases hx with⟨rfl,rfl⟩|⟨h,_,_⟩;· exact⟨by omega,aGe H hp h2⟩
 . rw[aGc h]at h2;cases h2
theorem aTu{s:ByteArray}{pos q:Nat}{x:Int}(hp:pos<s.size)(hx:(x=((s[pos]'hp).toNat:Int)/\q=pos+1)\/(128<=x/\128<=(s[pos]'hp).toNat/\pos<q))(h2:gI x=false):iJ s.data.toList=false:=by
 rcases hx with⟨rfl,rfl⟩|⟨_,h,_⟩;· exact aDm hp h2
 . exact aDm hp (aGc aA)
theorem aYu(s:ByteArray)(w:World)(hs:s.size<=9223372036854775807):
 Calls Tryz.prog 199 #[.string s] w fun e w'=>e=.returned (.bool (iJ s.data.toList))/\Below w.heap.size w w':=by
 by_cases h1:s.size<1
 . go_in
   go_wp2_with fail;go_ret;exact⟨aL (yO (.inl h1)).symm,Yg _ _⟩
 . by_cases h2:3<s.size
   . go_in
     go_wp2_with fail;go_ret;exact⟨aL (yO (.inr h2)).symm,Yg _ _⟩
   . have Kj:decide ((s.size:Int)<1)=false:=Zz aA;have Bp:decide ((3:Int)<(s.size:Int))=false:=Zz aA;have h0:0<s.size:=aA;have h3:s.size<=3:=aA;clear h1 h2;by_cases hf:((s[0]'h0).toNat:Int)=48
     . have HF:=Hd hf;have Aq:(((s[0]'h0).toNat:Int)==48)=true:=wJ;clear hf;go_in
       go_wp2_with fail;go_ret;exact⟨aL (aH3 h0 HF.o).symm,Yg _ _⟩
     . have HF:=Hd hf;have Aq:(((s[0]'h0).toNat:Int)==48)=false:=wJ;clear hf;go_in
       go_wp2_with fail;clear Kj Bp Aq;go_loopw [4] (fun _ wr=>∃pos:Nat,pos<=s.size/\wr=w.iter s pos/\rR s pos) (fun _ wr=>s.size-wr.iterPos w.heap.size)
       case atStart=>exact⟨0,by omega,rfl,aGd⟩
       case round=>
        obtain⟨pos,Bx,rfl,hrel⟩:=hrel;have HR:=Hd hrel;clear hrel;by_cases hp:pos<s.size
        . obtain⟨x,q,Ba,hx⟩:=aC2 (P:=Tryz.prog) w s pos hp;have HX:=Hd hx;clear hx;by_cases Gq:gI x=true
          . go_wp2_with (go_at_call 182;refine(aC1 x _).mono ?_;rintro e w' ⟨rfl,rfl⟩);go_roundw;case rel=>exact⟨q,(aGf HR.o hp HX.o Gq).1,rfl,(aGf HR.o hp HX.o Gq).2⟩
            case measure=>simp;have:=aBz hp HX.o;omega
          . have Gq:gI x=false:=by simpa using Gq
            go_wp2_with (go_at_call 182;refine(aC1 x _).mono ?_;rintro e w' ⟨rfl,rfl⟩);go_ret;exact⟨aL (aTu hp HX.o Gq).symm,sO _ _ _⟩
        . have Ba:∀ty,(Instr.next (.pointer (some ⟨w.heap.size,0,none⟩)) true ty).run Tryz.prog (w.iter s pos)=_:=fun ty=>run_next_end w s pos ty hp;go_wp2_with fail;go_ret;exact⟨aL (aKf h0 h3 HF.o fun k h=>HR.o k h aA).symm,sO _ _ _⟩
end
section
open Go.RowKit
theorem aH4{c:UInt8}{s a b:ByteArray}{f:Bool}(hf:f=false->s.data.toList=a.data.toList)(ht:f=true->s.data.toList=a.data.toList++c::b.data.toList):
 a.size<=s.size/\(f=true->b.size<s.size):=by
 have h1:=Zm s;have h2:=Zm a;have h3:=Zm b;cases f with
 |false=>have:=hf rfl;rw[<-this]at h2;exact⟨by omega,fun h=>by cases h⟩
 |true=>
  have:=congrArg List.length (ht rfl)
  simp only[Yn,Yo]at this;exact⟨by omega,fun _=>by omega⟩
theorem aLg(s:ByteArray)(w:World)(hs:s.size<=9223372036854775806):
 Calls Tryz.prog 195 #[.string s] w fun e w'=>e=.returned (.bool (fN s.data.toList))/\Below w.heap.size w w':=by
 go_in
 go_wp2_with fail;refine(aLf s 46 _ hs).mono ?_;rintro e w1 ⟨a,b,f,rfl,hb,hc,hf,ht⟩;have Al:=aH4 hf ht;have HB:=Hd hb;clear hb;by_cases hl:bE a.data.toList=true
 . cases f with
   |false=>
    have HE:=Hd (show true=fN s.data.toList by rw[hf rfl,aGr hc,hl]);exact aL7
   |true=>
    have HE:=Hd (show iJ b.data.toList=fN s.data.toList by rw[ht rfl,aI2 hc,hl];rfl);clear hf ht hc;have ha:=Al.1;have Ej:=Al.2 rfl;clear Al;go_wp2_with fail;refine(jJ a _ aA).mono ?_;rintro e w2 ⟨rfl,hb⟩;have Aj:=Hd (qR HB.o hb);clear hb;go_wp2_with fail;refine(aYu b _ aA).mono ?_;rintro e w3 ⟨rfl,hb⟩;have Ax:=Hd (qR Aj.o hb);clear hb;go_wp2_with fail;go_ret;exact⟨aL HE.o,Ax.o⟩
 . have hl:bE a.data.toList=false:=by simpa using hl
   have HE:Hid (false=fN s.data.toList):=by
    refine Hd ?_;cases f with
    |false=>rw[hf rfl,aGr hc,hl]
    |true=>rw[ht rfl,aI2 hc,hl];rfl
   exact aL7
def aR2:Value->Nat
 |.string s=>s.size
 |_=>0
theorem bFq(s:ByteArray)(w:World)(hs:s.size<=9223372036854775806):
 Calls Tryz.prog 190 #[.string s] w fun e w'=>e=.returned (.bool (fH s.data.toList))/\Below w.heap.size w w':=by
 go_in
 go_wp2_with fail;go_loopw [0] (fun v wr=>∃t:ByteArray,v=.string t/\t.size<=s.size/\fH s.data.toList=fH t.data.toList/\Below w.heap.size w wr) (fun v _=>aR2 v)
 case atStart=>exact⟨s,rfl,Yh _,rfl,Yg _ _⟩
 case round=>
  obtain⟨t,rfl,Aq,Gu,Ae⟩:=hrel;have HP:=Hd Gu;have Af:=Hd Ae;clear Gu Ae;go_wp2_with fail;refine(aLf t 47 _ aA).mono ?_;rintro e w1 ⟨a,b,f,rfl,hb,hc,hf,ht⟩;have Al:=aH4 hf ht;have HB:=Hd (Af.o.tr hb);clear hb;have ha:=Al.1;by_cases hl:fN a.data.toList=true
  . cases f with
    |false=>
     have HE:=Hd (show true=fH s.data.toList by rw[HP.o,hf rfl,aBv hc,hl]);exact aMl
    |true=>
     have HE:=Hd (show fH s.data.toList=fH b.data.toList by rw[HP.o,ht rfl,aJ9 hc,hl];rfl);have Ej:=Al.2 rfl;clear hf ht hc Al;go_wp2_with fail;refine(aLg a _ aA).mono ?_;rintro e w2 ⟨rfl,hb⟩;have Aj:=Hd (HB.o.tr hb);clear hb;go_wp2_with fail;go_roundw;case rel=>exact⟨b,rfl,by omega,HE.o,Aj.o⟩
     case measure=>simp[aR2];omega
  . have hl:fN a.data.toList=false:=by simpa using hl
    have HE:Hid (false=fH s.data.toList):=by
     refine Hd ?_;rw[HP.o];cases f with
     |false=>rw[hf rfl,aBv hc,hl]
     |true=>rw[ht rfl,aJ9 hc,hl];rfl
    exact aMl
end
section
open Go.RowKit Go.Maps Go.WideMaps
theorem vM:Keyed Tryz.prog 9:=string_keyed Tryz.underlying9
theorem aCf(w:World):(zeroValue 117).run Tryz.prog w=.ok (.agg #[]) w:=aC
def qB(ss:List ByteArray)(k:Nat):DataW Unit:=setOf (.agg []) ((ss.take k).map fun s=>Lit.string s.data.toList)
def oS(ss:List ByteArray)(k:Nat):Prop:=((ss.take k).map fun s=>s.data.toList).Nodup
def nN(ss:List ByteArray)(k:Nat):Bool:=decide ((ss[k]?.getD ByteArray.empty).data.toList∈(ss.take k).map fun s=>s.data.toList)
def cH(ss:List ByteArray):Bool:=vW (ss.map fun s=>s.data.toList)
theorem aS9(ss:List ByteArray):qB ss 0=.map []:=by simp[qB,setOf]
theorem xJ{ss:List ByteArray}{k:Nat}(h:k<ss.length):ss.take (k+1)=ss.take k++[ss[k]?.getD ByteArray.empty]:=by
 exact aOj
theorem aTa(ss:List ByteArray)(k:Nat)(h:k<ss.length):qB ss (k+1)=(qB ss k).put (.string (ss[k]?.getD ByteArray.empty).data.toList) (.agg []):=by
 unfold qB;rw[xJ h,Zq];exact setOf_snoc _ _ _
theorem aBh(x:List UInt8):∀l:List ByteArray,(l.map fun s=>Lit.string s.data.toList).any (fun y=>y.sameKey (.string x))=decide (x∈l.map fun s=>s.data.toList)
 |[]=>rfl
 |a::r=>by
  have e:(Lit.string a.data.toList).sameKey (.string x)=(a.data.toList==x):=rfl;rw[Xh,List.any_cons,aBh x r,Xh,e,Zn];simp only[Bool.or_eq_true,beq_iff_eq,decide_eq_true_eq,Yu];exact⟨fun h=>h.imp Eq.symm id,fun h=>h.imp Eq.symm id⟩
theorem aTv(ss:List ByteArray)(k:Nat):Maps.has (qB ss k) (.string (ss[k]?.getD ByteArray.empty).data.toList)=nN ss k:=by
 unfold qB nN;rw[has_setOf _ _ _ (fun y hy=>by obtain⟨_,_,rfl⟩:=List.mem_map.1 hy;trivial),aBh]
theorem aGg(ss:List ByteArray):oS ss 0:=by simp[oS]
theorem aGh{ss:List ByteArray}{k:Nat}(H:oS ss k)(h:k<ss.length)(hn:nN ss k=false):oS ss (k+1):=by
 unfold oS at H⊢;rw[xJ h,Zq,List.nodup_append];refine⟨H,by simp,fun a ha b hb=>?_⟩;simp at hb;subst hb;intro e;subst e;simp only[nN,decide_eq_false_iff_not]at hn;exact hn ha
theorem aGv{ss:List ByteArray}{k:Nat}(H:oS ss k)(h:ss.length<=k):cH ss=true:=by
 unfold oS at H;rw[Yx h]at H;exact Zy H
theorem aGw{ss:List ByteArray}{k:Nat}(h:k<ss.length)(hn:nN ss k=true):cH ss=false:=by
 simp only[nN,decide_eq_true_eq]at hn;unfold cH vW;refine Zz fun hd=>?_;have e:ss=ss.take k++ss.drop k:=(List.take_append_drop k ss).symm;rw[e,Zq,List.nodup_append]at hd;have hm:(ss[k]?.getD ByteArray.empty)∈ss.drop k:=by
  rw[Yk h,Yt,List.drop_eq_getElem_cons h];exact List.mem_cons_self
 exact hd.2.2 _ hn _ (List.mem_map.2 ⟨_,hm,rfl⟩) rfl
theorem tI(A:Option Addr)(n c:Nat)(ss:List ByteArray)(w:World)(h:aP w A n ss)(hz:∀s∈ss,s.size<=maxLen)(hn:n<=100):
 Calls Tryz.prog 105 #[.slice A n c] w fun e w'=>e=.returned (.bool (cH ss))/\Below w.heap.size w w':=by
 have hmm:=@run_makeMap Tryz.prog;have HL:=Hd h.len;go_in
 go_wp2_with fail;go_loopw [11] (fun i wr=>∃k:Nat,k<=n/\i=.int .i64 k/\wr.ownsMap Tryz.prog 9 unitElem w.heap.size k (qB ss k)/\Below w.heap.size w wr/\w.heap.size+1<=wr.heap.size/\oS ss k)
  (fun i _=>n-(intOf i).toNat)
 case atStart=>exact⟨0,Yq _,rfl,by rw[aS9];exact World.ownsMap_made _ _ _ _,(Yg _ _).alloc (Yh _) _,by simp,aGg _⟩
 case round=>
  obtain⟨k,hk,rfl,Bq,Ba,Oa,Bx⟩:=hrel;have HO:=Hd Bx;clear Bx;by_cases Ah:k<n
  . obtain⟨b,off,rfl,hb,hc⟩:=h.at_ Ah;have Nz:wr.cell? ⟨b,off+k,none⟩=some (.string (ss[k]?.getD ByteArray.empty)):=(Ba.cell hb).trans (hc k Ah);have Nv:k<ss.length:=wH;have HS:=Hd (aTa ss k Nv);have Nu:=aTv ss k;have Ny:(ss[k]?.getD ByteArray.empty).size<=maxLen:=hz _ (by rw[Yk Nv];exact Zh _);clear hc hz;generalize hx:ss[k]?.getD ByteArray.empty=x at Nz Ny Nu HS;have Nt:keyOf Tryz.prog 9 (.string x)=some (.string x.data.toList):=keyOf_string_mk Tryz.underlying9 Ny;have Nx:=Hd Nv;clear hx Nv;have Nv:k<maxLen:=dP;by_cases Bp:nN ss k=true
    . have Nw:=Hd Bp;rw[Bp]at Nu;clear Bp;go_wp2_with (at_lookup;refine wpList_lookup_own_unit _ rfl _ _ 84 rfl 9 117 vM Tryz.underlying84 (aCf _) w.heap.size k _ rfl Bq _ _ rfl Nt ?_);go_ret;exact⟨aL (aGw Nx.o Nw.o).symm,Ba.alloc Ba.size _⟩
    . have Bp:nN ss k=false:=by simpa using Bp
      have Nw:=Hd Bp;rw[Bp]at Nu;clear Bp
      go_wp2_with (first
       |(at_lookup;refine wpList_lookup_own_unit _ rfl _ _ 84 rfl 9 117 vM Tryz.underlying84 (aCf _) w.heap.size k _ rfl Bq _ _ rfl Nt ?_)
       |(at_mapUpdate;refine wpList_mapUpdate_own _ rfl _ _ _ 84 rfl 9 117 vM Tryz.underlying84 (unitElem (H:=Unit)) w.heap.size k _ rfl (Bq.alloc _) Nv _ _ _ rfl rfl Nt _ [] unitElem_mk ?_;intro w1 Jx Aq))
      have HW:=Hd Jx;have HG:=Hd Aq;have s1:=Aq.size;simp at s1;clear Jx Aq;go_roundw;case rel=>
       refine⟨k+1,by omega,by go_num,?_,?_,by omega,aGh HO.o Nx.o Nw.o⟩
       . rw[HS.o];exact HW.o
       . exact(Ba.alloc Ba.size _).grown HG.o dA (fun j hj=>by cases hj;exact Yh _)
      case measure=>simp[intOf];omega
  . go_wp2_with fail;go_ret;exact⟨aL (aGv HO.o aFj).symm,Ba⟩
end
section
open Go.RowKit
def aKg(ss:List ByteArray)(x:ByteArray)(j:Nat):Prop:=∀i,i<j->((ss[i]?.getD ByteArray.empty).toList==x.toList)=false
theorem aTw{ss:List ByteArray}{k:Nat}(h:k<ss.length)(H:aKg ss (ss[k]?.getD ByteArray.empty) k):nN ss k=false:=by
 refine Zz fun hm=>?_;obtain⟨y,hy,e⟩:=List.mem_map.1 hm;obtain⟨i,hi,ey⟩:=Zj hy;rw[List.length_take]at hi;have h1:=H i aA;rw[List.getElem_take]at ey;rw[Yk (show i<ss.length by omega),Yt,ey,Zc,Zc,e]at h1;simp at h1
theorem aTx{ss:List ByteArray}{i k:Nat}(h:k<ss.length)(hi:i<k)(he:((ss[i]?.getD ByteArray.empty).toList==(ss[k]?.getD ByteArray.empty).toList)=true):nN ss k=true:=by
 refine Zy (List.mem_map.2 ⟨ss[i]?.getD ByteArray.empty,?_,?_⟩)
 . rw[Yk (show i<ss.length by omega),Yt];exact List.mem_take_iff_getElem.2 ⟨i,by omega,rfl⟩
 . rw[Zc,Zc]at he;exact beq_iff_eq.1 he
theorem tD(A:Option Addr)(n c:Nat)(ss:List ByteArray)(w:World)(h:aP w A n ss)(hn:n<=100):
 Calls Tryz.prog 82 #[.slice A n c] w fun e w'=>e=.returned (.bool (cH ss))/\∃m,w'=w.drewN m:=by
 have HL:=Hd h.len;go_in
 go_wp2_with fail;go_loopw [3] (fun i wr=>∃k:Nat,k<=n/\i=.int .i64 k/\(∃m,wr=w.drewN m)/\oS ss k) (fun i _=>n-(intOf i).toNat)
 case atStart=>exact⟨0,Yq _,rfl,⟨0,rfl⟩,aGg _⟩
 case round=>
  obtain⟨k,hk,rfl,⟨m,rfl⟩,Aq⟩:=hrel;have HO:=Hd Aq;clear Aq;by_cases Ah:k<n
  . obtain⟨b,off,rfl,hb,hc⟩:=h.at_ Ah;have Jx:k<ss.length:=wH;have Nw:=hc k Ah;generalize hx:ss[k]?.getD ByteArray.empty=x at Nw;have HX:=Hd hx;have Bp:=Hd Jx;have HC:=Hd hc;clear hx Jx hc;go_wp2_with fail;go_loopw [4] (fun j wr=>∃i:Nat,i<=k/\j=.int .i64 i/\(∃m,wr=w.drewN m)/\aKg ss x i) (fun j _=>k-(intOf j).toNat)
    case atStart=>exact⟨0,Yq _,rfl,⟨_,rfl⟩,fun i hi=>absurd hi aA⟩
    case round=>
     obtain⟨i,hi,rfl,⟨m2,rfl⟩,Nt⟩:=hrel;have Bx:=Hd Nt;clear Nt;by_cases Nu:i<k
     . have Nv:=HC.o i aA;generalize hy:ss[i]?.getD ByteArray.empty=y at Nv;have HY:=Hd hy;clear hy;by_cases he:(y.toList==x.toList)=true
       . have HE:=Hd he;go_wp2_with fail;go_quiet (fail);go_wp2_with fail;go_ret;refine⟨aL ?_,_,World.drewN_drewN _ _ _⟩;exact(aGw Bp.o (aTx Bp.o Nu (by rw[HX.o,HY.o];exact HE.o))).symm
       . have he:(y.toList==x.toList)=false:=by simpa using he
         have HE:=Hd he;go_wp2_with fail;go_quiet (fail);go_wp2_with fail;go_roundw;case rel=>
          refine⟨i+1,by omega,by go_num,⟨_,rfl⟩,fun j hj=>?_⟩;rcases Nat.lt_or_ge j i with h1|h1;· exact Bx.o j h1
          . obtain rfl:j=i:=by omega
            rw[HY.o];exact HE.o
         case measure=>simp[intOf];omega
     . go_wp2_with fail;go_roundw;case rel=>
        refine⟨k+1,by omega,by go_num,⟨_,rfl⟩,aGh HO.o Bp.o (aTw Bp.o ?_)⟩;rw[HX.o];exact fun j hj=>Bx.o j aA
       case measure=>simp[intOf];omega
  . go_wp2_with fail;go_ret;exact⟨aL (aGv HO.o aFj).symm,_,rfl⟩
def jE(ss:List ByteArray):List (List UInt8):=ss.map fun s=>s.data.toList
def mO(c:UInt8)(s:ByteArray)(ss:List ByteArray)(f i:Nat):Prop:=
 ss.length<=i/\((i<=s.size/\f<=i/\dJ c s.data.toList=jE ss++dJ c (s.data.toList.drop f)/\c∉(s.data.toList.drop f).take (i-f)) \/
 (i=s.size+1/\f=i/\dJ c s.data.toList=jE ss))
section
variable {c:UInt8}{s:ByteArray}{ss:List ByteArray}{f i:Nat}
theorem aTy:mO c s [] 0 0:=⟨by simp,.inl ⟨by omega,by omega,by simp[jE],by simp⟩⟩
theorem aYv(H:mO c s ss f i)(hi:i<=s.size):f<=i:=by
 obtain⟨_,h|h⟩:=H<;>omega
theorem aGx(hi:i<=s.size):(s.extract f i).data.toList=(s.data.toList.drop f).take (i-f):=Lib.extract_data s f i
theorem aTz(H:mO c s ss f i)(hi:i=s.size):mO c s (ss++[s.extract f i]) (i+1) (i+1):=by
 subst hi;obtain⟨hl,h|h⟩:=H
 . obtain⟨_,hf,he,hn⟩:=h;refine⟨by simp;omega,.inr ⟨rfl,rfl,?_⟩⟩;have h1:(s.data.toList.drop f).take (s.size-f)=s.data.toList.drop f:=Yx (by rw[Zm];simp);rw[h1]at hn;rw[he,sR hn];simp only[jE,Zq,Xh,List.map_nil];rw[aGx (Yh _),h1]
 . omega
theorem aVy(H:mO c s ss f i)(hi:i<s.size)(hc:s[i]'hi=c):mO c s (ss++[s.extract f i]) (i+1) (i+1):=by
 obtain⟨hl,h|h⟩:=H
 . obtain⟨_,hf,he,hn⟩:=h;have Aq:i<s.data.toList.length:=by rw[<-Zm];exact hi
   refine⟨by simp;omega,.inl ⟨by omega,by omega,?_,by simp⟩⟩;have e1:s.data.toList.drop f=(s.data.toList.drop f).take (i-f)++c::s.data.toList.drop (i+1):=by
    have h1:=(List.take_append_drop (i-f) (s.data.toList.drop f)).symm;have h2:(s.data.toList.drop f).drop (i-f)=c::s.data.toList.drop (i+1):=by
     rw[List.drop_drop,show f+(i-f)=i by omega,List.drop_eq_getElem_cons Aq,vD s i hi,hc]
    rw[h2]at h1;exact h1
   rw[he,e1,aJ8 hn];simp only[jE,Zq,Xh,List.map_nil,Yw,List.singleton_append];rw[aGx aA]
 . omega
theorem aYw(H:mO c s ss f i)(hi:i<s.size)(hc:¬s[i]'hi=c):mO c s ss f (i+1):=by
 obtain⟨hl,h|h⟩:=H
 . obtain⟨_,hf,he,hn⟩:=h;have Aq:i<s.data.toList.length:=by rw[<-Zm];exact hi
   refine⟨by omega,.inl ⟨by omega,by omega,he,?_⟩⟩;have e1:i+1-f=(i-f)+1:=aA;have hd:i-f<(s.data.toList.drop f).length:=by rw[List.length_drop];omega
   rw[e1,List.take_succ_eq_append_getElem hd,Zo];rintro (h|h);· exact hn h
   . simp only[List.mem_singleton,List.getElem_drop]at h;apply hc;rw[<-vD s i hi,h];congr 1;omega
 . omega
theorem aVz(H:mO c s ss f i)(hi:¬i<=s.size):dJ c s.data.toList=jE ss:=by
 obtain⟨_,h|h⟩:=H;· omega
 . exact h.2.2
end
def aLh(c:UInt8)(s:ByteArray)(w:World)(e:Ending)(w':World):Prop:=
 ∃(A:Option Addr)(n k:Nat)(ss:List ByteArray),e=.returned (.slice A n k)/\aP w' A n ss/\dJ c s.data.toList=jE ss/\n<=s.size+1/\Below w.heap.size w w'
theorem aV0{c:UInt8}{s:ByteArray}{w w':World}{base:Nat}{T:TypeId}{v:Value}{ss:List ByteArray}{f i n:Nat}
 (H:mO c s ss f i)(hi:¬i<=s.size)(Aq:i<=s.size+1)(hs:s.size<=1000)(hn:n=ss.length)(Ao:w'.ownsRow base T 1 v n (ss.map Value.string))(hb:Below w.heap.size w w'):
 aLh c s w (.returned v) w':=by
 have h1:=aVz H hi;have h2:=H.1;obtain⟨A,k,rfl,Ap,_⟩:=aP.of_own Ao aA;exact⟨A,n,k,ss,rfl,Ap,h1,by omega,hb⟩
theorem qT:(Tryz.prog.info? 9).map (fun i=>(i.zero,i.size,i.bytes))=some (some (.string ByteArray.empty),1,16):=aC
theorem oG(l:List ByteArray):∀u∈l.map Value.string,u.oneCell'=true:=by
 exact bG3
theorem aLi(s:ByteArray)(x:Int)(c:UInt8)(hx:x=(c.toNat:Int))(w:World)(hs:s.size<=1000):
 Calls Tryz.prog 197 #[.string s,.int .u8 x] w (aLh c s w):=by
 have HX:=Hd hx;clear hx;obtain⟨i0,hi,Nv,Nw,Cu⟩:=info_parts qT;have Jx:=Hd (World.ownsRow_lit (base:=w.heap.size) (e:=9) (size:=1) w #[] 0 (Yh _) bS rfl);have Af:=Hd ((Yg w.heap.size w).alloc (Yh _) (.cells #[] 9));go_in
 go_wp2_with fail;go_loopw [5,6,7] (fun v fr i wr=>∃(ss:List ByteArray)(f k:Nat),i=.int .i64 k/\fr=.int .i64 f/\k<=s.size+1/\mO c s ss f k/\wr.ownsRow w.heap.size 9 1 v ss.length (ss.map Value.string)/\Below w.heap.size w wr)
  (fun _ _ i _=>s.size+1-(intOf i).toNat)
 case atStart=>exact⟨[],0,0,rfl,rfl,by omega,aTy,Jx.o,Af.o⟩
 case round=>
  obtain⟨ss,f,k,rfl,rfl,hk,Aq,Ao,Bp⟩:=hrel;have HC:=Hd Aq;have Nz:=Aq.1;have HR:=Hd Ao;have HB:=Hd Bp;have Ny:=Bp.size;by_cases Nx:k<=s.size
  . have Oa:=aYv Aq Nx;clear Aq Ao Bp Jx Af;by_cases Bx:k=s.size
    . have Aa:((k:Int)==(s.size:Int))=true:=by rw[Bx];simp
      have HE:=Hd Bx;clear Bx;go_wp2_with (first|(at_builtin;refine wpList_append_own_at _ rfl _ _ 49 rfl w.heap.size 9 i0 (.string ByteArray.empty) 1 16 Tryz.underlying49 hi Nv Nw Cu rfl bS _ _ _ rfl (HR.o.alloc _) ⟨wr.heap.size,0,none⟩ 1 1 [.string (s.extract f k)] rfl rfl (cell_one_new _ _ _) (oG [s.extract f k]) dP aA dA ?_;intro v' w1 Bb Ar Ec Dy));have HO:=Hd Bb;have HG:=Hd Ar;have Nt:=Ar.size;simp at Nt;clear Bb Ar Ec Dy;go_roundw;case rel=>
       refine⟨ss++[s.extract f k],k+1,k+1,by go_num,by go_num,by omega,aTz HC.o HE.o,?_,?_⟩
       . rw[Yn,Zq];exact HO.o
       . exact aNg
      case measure=>simp[intOf];omega
    . have Ah:k<s.size:=by omega
      have Aa:((k:Int)==(s.size:Int))=false:=mV;clear Bx;by_cases Bf:s[k]'Ah=c
      . have Ad:(((s[k]'Ah).toNat:Int)==x)=true:=by rw[HX.o,Bf];simp
        have HE:=Hd Bf;clear Bf;go_wp2_with (first|(at_builtin;refine wpList_append_own_at _ rfl _ _ 49 rfl w.heap.size 9 i0 (.string ByteArray.empty) 1 16 Tryz.underlying49 hi Nv Nw Cu rfl bS _ _ _ rfl (HR.o.alloc _) ⟨wr.heap.size,0,none⟩ 1 1 [.string (s.extract f k)] rfl rfl (cell_one_new _ _ _) (oG [s.extract f k]) dP aA dA ?_;intro v' w1 Bb Ar Ec Dy));have HO:=Hd Bb;have HG:=Hd Ar;have Nt:=Ar.size;simp at Nt;clear Bb Ar Ec Dy;go_roundw;case rel=>
         refine⟨ss++[s.extract f k],k+1,k+1,by go_num,by go_num,by omega,aVy HC.o Ah HE.o,?_,?_⟩
         . rw[Yn,Zq];exact HO.o
         . exact aNg
        case measure=>simp[intOf];omega
      . have Ad:(((s[k]'Ah).toNat:Int)==x)=false:=by
         rw[HX.o,Xb];intro e;exact Bf (UInt8.toNat_inj.1 aA)
        have HE:=Hd Bf;clear Bf;go_wp2_with fail;go_roundw;case rel=>exact⟨ss,f,k+1,by go_num,rfl,by omega,aYw HC.o Ah HE.o,HR.o,HB.o⟩
        case measure=>simp[intOf];omega
  . have Nu:=Hd (aV0 Aq Nx hk hs rfl Ao Bp);clear Aq Ao Bp Jx Af;go_wp2_with fail;go_ret;exact Nu.o
end
section
open Go.RowKit
theorem xW{c:UInt8}:∀{l p:List UInt8},p∈dJ c l->p.length<=l.length
 |[],p,h=>by simp[dJ]at h;simp[h]
 |b::l,p,h=>by
  unfold dJ at h;split at h
  . rcases Yu.1 h with h|h;· simp[h]
    . have:=xW h;simp;omega
  . cases hc:dJ c l with
    |nil=>rw[hc]at h;simp at h;simp[h]
    |cons q qs=>
     rw[hc]at h;rcases Yu.1 h with h|h
     . have:=xW (l:=l) (c:=c) (p:=q) (by rw[hc];simp)
       rw[h];simp;omega
     . have:=xW (l:=l) (c:=c) (p:=p) (by rw[hc];simp[h])
       simp;omega
theorem aB0{c:UInt8}{s:ByteArray}{ss:List ByteArray}{k:Nat}(h:dJ c s.data.toList=jE ss)(hk:k<ss.length):(ss[k]?.getD ByteArray.empty).size<=s.size:=by
 rw[Yk hk,Yt,Zm,Zm];apply xW (c:=c);rw[h];exact List.mem_map.2 ⟨_,Zh hk,rfl⟩
def yP(ss:List ByteArray)(k:Nat):Prop:=∀j,j<k->fN (ss[j]?.getD ByteArray.empty).data.toList=true
section
variable {s:ByteArray}{ss:List ByteArray}{k:Nat}
theorem aSz(H:yP ss k)(h:fN (ss[k]?.getD ByteArray.empty).data.toList=true):yP ss (k+1):=fun j hj=>by
 exact aEc
theorem aYx(hc:dJ 47 s.data.toList=jE ss)(H:yP ss k)(h:ss.length<=k):fH s.data.toList=true:=by
 unfold fH;rw[hc,Zg];intro p hp;obtain⟨x,hx,rfl⟩:=List.mem_map.1 hp;obtain⟨j,hj,rfl⟩:=Zj hx
 have:=H j aA
 exact vT
theorem aYy(hc:dJ 47 s.data.toList=jE ss)(hk:k<ss.length)(h:fN (ss[k]?.getD ByteArray.empty).data.toList=false):fH s.data.toList=false:=by
 unfold fH;rw[hc];cases ha:(jE ss).all fN with
 |false=>rfl
 |true=>
  rw[Zg]at ha
  have:=ha _ (List.mem_map.2 ⟨ss[k],Zh hk,rfl⟩)
  rw[Yk hk,Yt,this]at h;cases h
end
section
variable {x:ByteArray}{ps:List ByteArray}{m:Nat}
theorem aV1(hc:dJ 46 x.data.toList=jE ps)(h:2<ps.length):fN x.data.toList=false:=by
 unfold fN;rw[hc]
 match ps,h with
 |a::b::c::r,_=>rfl
theorem aYz(hc:dJ 46 x.data.toList=jE ps)(h:bE (ps[0]?.getD ByteArray.empty).data.toList=false)(h0:0<ps.length):fN x.data.toList=false:=by
 unfold fN;rw[hc]
 match ps,h0 with
 |[a],_=>exact h
 |[a,b],_=>show(bE a.data.toList && _)=false;rw[show bE a.data.toList=false from h];rfl
 |a::b::c::r,_=>rfl
theorem aY0(hc:dJ 46 x.data.toList=jE ps)(h:bE (ps[0]?.getD ByteArray.empty).data.toList=true)(h1:ps.length=1):fN x.data.toList=true:=by
 unfold fN;rw[hc]
 match ps,h1 with
 |[a],_=>exact h
theorem aY1(hc:dJ 46 x.data.toList=jE ps)(h:bE (ps[0]?.getD ByteArray.empty).data.toList=true)(h2:ps.length=2):fN x.data.toList=iJ (ps[1]?.getD ByteArray.empty).data.toList:=by
 unfold fN;rw[hc]
 match ps,h2 with
 |[a,b],_=>show(bE a.data.toList && iJ b.data.toList)=_;rw[show bE a.data.toList=true from h];rfl
theorem aV2{c:UInt8}(hc:dJ c x.data.toList=jE ps):0<ps.length:=by
 cases ps with
 |nil=>exact absurd hc (yL _ _)
 |cons a r=>simp
end
theorem bCe(s:ByteArray)(w:World)(hs:s.size<=1000):
 Calls Tryz.prog 192 #[.string s] w fun e w'=>e=.returned (.bool (fH s.data.toList))/\Below w.heap.size w w':=by
 have Nv:(47:Int)=((47:UInt8).toNat:Int):=bS;have Nu:(46:Int)=((46:UInt8).toNat:Int):=bS;have Nx:=Hd fun(w:World)=>aLi s 47 47 Nv w hs;have Nz:=Hd fun(x:ByteArray)(w:World)(hs:x.size<=1000)=>aLi x 46 46 Nu w hs;clear Nv Nu;go_in
 go_wp2_with fail;refine(Nx.o _).mono ?_;rintro e w1 ⟨A,n,c,ss,rfl,Ap,Ny,hn1,hb⟩;have Ac:=Hd hb;have Of:=Hd Ny;have HL:=Hd Ap.len;clear hb Ny Nx;go_wp2_with fail;go_loopw [4] (fun i wr=>∃k:Nat,k<=n/\i=.int .i64 k/\yP ss k/\Below w1.heap.size w1 wr) (fun i _=>n-(intOf i).toNat)
 case atStart=>exact⟨0,Yq _,rfl,fun j hj=>absurd hj aA,Yg _ _⟩
 case round=>
  obtain⟨k,hk,rfl,Gu,Cb⟩:=hrel;have HP:=Hd Gu;have HB:=Hd Cb;clear Gu;by_cases Ah:k<n
  . obtain⟨b,off,rfl,Bn,hc⟩:=Ap.at_ Ah;have Oi:=(Cb.cell (p:=⟨b,off+k,none⟩) Bn).trans (hc k Ah);have Od:k<ss.length:=wH;have Ok:=aB0 Of.o Od;have Bx:=Hd fun h=>aYy Of.o Od h;have Nt:=Hd fun h=>aSz HP.o h;generalize hx:ss[k]?.getD ByteArray.empty=x at Oi Ok Bx Nt;clear hc Cb hx Od;go_wp2_with fail;refine(Nz.o x _ aA).mono ?_;rintro e w2 ⟨A2,n2,c2,ps,rfl,Jx,Aq,Lm,Ad⟩;have Aj:=Hd (HB.o.tr Ad);have h0:=aV2 Aq;have Oa:=Jx.len;obtain⟨b2,Gc,rfl,Oe,Gb⟩:=Jx.at_ (i:=0) aA;have Nw:=Gb 0 aA;rw[Nat.add_zero]at Nw;have ha:=aB0 Aq h0;have Oo:0<n2:=aA;by_cases h3:2<n2
    . have HE:=Hd (Bx.o (aV1 Aq aA));clear Aq Ad Jx Gb Nw Oa;go_wp2_with fail;go_ret;exact⟨aL HE.o.symm,Ac.o.tr Aj.o⟩
    . by_cases Bp:bE (ps[0]?.getD ByteArray.empty).data.toList=true
      . by_cases h1:n2<2
        . have HE:=Hd (Nt.o (aY0 Aq Bp aA));clear Aq Ad Jx Gb Oa;generalize ps[0]?.getD ByteArray.empty=a at Nw ha Bp;go_wp2_with fail;refine(lR a _ aA).mono ?_;rw[Bp];rintro e w3 ⟨rfl,Ak⟩;have Ax:=Hd (Aj.o.tr Ak);clear Ak Bp;go_wp2_with fail;go_roundw;case rel=>exact⟨k+1,by omega,by go_num,HE.o,Ax.o⟩
          case measure=>simp[intOf];omega
        . have hE:=aY1 Aq Bp aA;have Og:=Gb 1 aA;have hy:=aB0 Aq (k:=1) aA;clear Aq Ad Jx Gb Oa;generalize ps[0]?.getD ByteArray.empty=a at Nw ha Bp;generalize ps[1]?.getD ByteArray.empty=y at Og hy hE;have HE:=Hd hE;clear hE;go_wp2_with fail;refine(lR a _ aA).mono ?_;rw[Bp];rintro e w3 ⟨rfl,Ak⟩;have Ax:=Hd (Aj.o.tr Ak);have Og:=(Ak.cell (p:=⟨b2,Gc+1,none⟩) Oe).trans Og;clear Ak Bp;have On:decide ((n2:Int)<2)=false:=Zz aA;have Kk:1<n2:=aA;by_cases g1:y.size<1
          . have HF:=Hd (Bx.o (HE.o.trans (yO (.inl g1))));exact aEh
          . by_cases g2:3<y.size
            . have HF:=Hd (Bx.o (HE.o.trans (yO (.inr g2))));exact aEh
            . have Kj:decide ((y.size:Int)<1)=false:=Zz aA;have Om:decide ((3:Int)<(y.size:Int))=false:=Zz aA;have Ol:decide ((2:Int)<(n2:Int))=false:=Zz aA;have y0:0<y.size:=aA;have y3:y.size<=3:=aA;clear g1 g2;by_cases hf:((y[0]'y0).toNat:Int)=48
              . have HF:=Hd (Bx.o (HE.o.trans (aH3 y0 hf)));have Oj:(((y[0]'y0).toNat:Int)==48)=true:=wJ;clear hf;exact aEh
              . have HF:=Hd hf;have Oj:(((y[0]'y0).toNat:Int)==48)=false:=wJ;clear hf;go_wp2_with fail;go_loopw [7] (fun i wr=>∃j:Nat,j<=y.size/\i=.int .i64 j/\wr=w3/\rR y j) (fun i _=>y.size-(intOf i).toNat)
                case atStart=>exact⟨0,Yq _,rfl,rfl,aGd⟩
                case round=>
                 obtain⟨j,hj,rfl,rfl,Oh⟩:=hrel;have HD:=Hd Oh;clear Oh;by_cases Oc:j<y.size
                 . by_cases Ob:gI ((y[j]'Oc).toNat:Int)=true
                   . go_wp2_with (go_at_call 175;refine(zF _ _).mono ?_;rintro e w' ⟨rfl,rfl⟩);go_roundw;case rel=>exact⟨j+1,by omega,by go_num,gW,aGe HD.o Oc Ob⟩
                     case measure=>simp[intOf];omega
                   . have Ob:gI ((y[j]'Oc).toNat:Int)=false:=by simpa using Ob
                     have HG:=Hd (Bx.o (HE.o.trans (aDm Oc Ob)));go_wp2_with (go_at_call 175;refine(zF _ _).mono ?_;rintro e w' ⟨rfl,rfl⟩);go_ret;exact⟨aL HG.o.symm,Ac.o.tr Ax.o⟩
                 . have HG:=Hd (Nt.o (HE.o.trans (aKf y0 y3 HF.o fun i h=>HD.o i h aA)));go_wp2_with fail;go_roundw;case rel=>exact⟨k+1,by omega,by go_num,HG.o,Ax.o⟩
                   case measure=>simp[intOf];omega
      . have Bp:bE (ps[0]?.getD ByteArray.empty).data.toList=false:=by simpa using Bp
        have HE:=Hd (Bx.o (aYz Aq Bp h0));clear Aq Ad Jx Gb Oa;generalize ps[0]?.getD ByteArray.empty=a at Nw ha Bp;go_wp2_with fail;refine(lR a _ aA).mono ?_;rw[Bp];rintro e w3 ⟨rfl,Ak⟩;have Ax:=Hd (Aj.o.tr Ak);clear Ak Bp;go_wp2_with fail;go_ret;exact⟨aL HE.o.symm,Ac.o.tr Ax.o⟩
  . go_wp2_with fail;go_ret;exact⟨aL (aYx Of.o HP.o aFj).symm,Ac.o.tr HB.o⟩
end
section
open Go.RowKit Go.Sort
def cV(x:Ex):Bool:=if x.k==5 then(x.op==1) && (x.subs.length==1) && ((aM x 0).k==1)else(x.k==1) || (x.k==2) || (x.k==4)
def dQ(x:Ex):Bool:=if x.k==14 then x.subs.all cV else cV x
theorem aC4(n:Nat):((n:Int)==1)=(n==1):=by rw[Zn];simp;omega
theorem aGy(x:Ex)(A:Option Addr)(ca:Nat)(B:Option Addr)(cb:Nat)(w:World)(hr:aH w x A B):
 Calls Tryz.prog 180 #[.agg (aE x A ca B cb)] w fun e w'=>e=.returned (.bool (cV x))/\Below w.heap.size w w':=by
 have HF:=Hd fun w1 h=>fB w x A ca B cb w1 h hr;have HS:=Hd (show cV x=if x.k==5 then(x.op==1) && (x.subs.length==1) && ((aM x 0).k==1)else(x.k==1) || (x.k==2) || (x.k==4)from rfl);have Bx:=hr.subs.max;clear hr;unfold aE at HF⊢;generalize cV x=Bu at *;generalize x.k=k at *;generalize x.op=o at *;generalize Bp:x.subs.length=n at *;have Da:=aC4 n;cases h5:(k==5)with
 |true=>
  obtain rfl:k=5:=by simpa using h5
  cases ho:(o==1)with
  |false=>
   exact aRf
  |true=>
   cases hl:(n==1)with
   |false=>
    exact aRb
   |true=>
    have HN:=Hd (show Bu=((aM x 0).k==1)by rw[HS.o,ho,hl];rfl);rw[hl]at Da;obtain rfl:n=1:=by simpa using hl
    go_in
    go_upto_region 1 with(fail);generalize Ag:w.alloc _=w1;obtain⟨Aa,hg,Av,hcell⟩:=HF.o w1 Ag;obtain⟨b,off,rfl,hb,Ca⟩:=Av.sub (i:=0) aA;obtain⟨A',Jx,B',Nt,Aq,Ap⟩:=Ca 0 aA;rw[Nat.zero_mul,Nat.add_zero]at Aq;obtain⟨c0,c1,c2,c3,c4,c5⟩:=dT Aq;have Ac:=Hd Aa;obtain⟨q0,-,-,q3,-,q5⟩:=Sx (hcell w1 (Yg _ _));clear hcell Aa Av Ag HF Ca Aq Ap c1 c2 c3 c4 c5;exact aN2
 |false=>
  have HN:=Hd (show Bu=((k==1) || (k==2) || (k==4))by rw[HS.o,h5];rfl);cases h1:(k==1)<;>cases h2:(k==2)<;>cases h4:(k==4)
  all_goals (
   rw[h1,h2,h4]at HN;go_in
   go_upto_region 1 with(fail);generalize Ag:w.alloc _=w1;obtain⟨Aa,hg,Av,hcell⟩:=HF.o w1 Ag;have Ac:=Hd Aa;have q0:=hcell w1 (Yg _ _) 0;clear hcell Aa Av Ag HF;go_wp2_with fail;go_ret;exact⟨aL HN.o.symm,Ac.o⟩)
theorem xX(x:Ex)(A:Option Addr)(ca:Nat)(B:Option Addr)(cb:Nat)(w:World)(hr:aH w x A B):
 Calls Tryz.prog 156 #[.agg (aE x A ca B cb)] w fun e w'=>e=.returned (.bool (dQ x))/\Below w.heap.size w w':=by
 have HF:=Hd fun w1 h=>fB w x A ca B cb w1 h hr;have HS:=Hd (show dQ x=if x.k==14 then x.subs.all cV else cV x from rfl);have Nx:=hr.subs.max;have Bx:=Hd fun(x:Ex)(A:Option Addr)(ca:Nat)(B:Option Addr)(cb:Nat)(w:World)(hr:aH w x A B)=>aGy x A ca B cb w hr;have Ch:=Hd fun i (hi:i<x.subs.length)(h:cV (aM x i)=false)=>nG (f:=cV) hi h;have Gx:=Hd fun k (hk:k<x.subs.length) h (hx:cV (aM x k)=true)=>qP (f:=cV) hk h hx;have Jt:=Hd fun k h (hk:x.subs.length<=k)=>qS (l:=x.subs) (f:=cV) (k:=k) h hk;have Jr:=Hd fun w1 (h:aH w1 x A B)=>aGy x A ca B cb w1 h;clear hr;unfold aE at HF Bx Jr⊢;generalize dQ x=Bu at *;generalize cV x=lx at *;generalize x.k=k at *;generalize Nt:x.subs.length=n at *;cases Ja:(k==14)with
 |false=>
  exact aQt
 |true=>
  obtain rfl:k=14:=by simpa using Ja
  have HN:=Hd (show Bu=x.subs.all cV by rw[HS.o];rfl);go_in
  go_upto_region 1 with(fail);generalize Ag:w.alloc _=w1;obtain⟨Aa,hg,Av,hcell⟩:=HF.o w1 Ag;have Ac:=Hd Aa;have q0:=hcell w1 (Yg _ _) 0;have q5:=hcell w1 (Yg _ _) 5;have HC:=Hd hcell;have Bi:=Hd Av;clear hcell Aa Av Ag HF;go_wp2_with fail;go_loopw [3] (fun i wr=>∃k:Nat,k<=n/\i=.int .i64 k/\(x.subs.take k).all cV=true/\Below w1.heap.size w1 wr) (fun i _=>n-(intOf i).toNat)
  case atStart=>exact⟨0,Yq _,rfl,by simp,Yg _ _⟩
  case round=>
   obtain⟨k,hk,rfl,Bh,Cb⟩:=hrel;have HA:=Hd Bh;have Bo:=Hd Cb;have Nw:=HC.o wr Cb 5;clear Bh;by_cases Ah:k<n
   . obtain⟨b,off,rfl,hb,Ca⟩:=(Bi.o.below Cb).sub (i:=k) aA;obtain⟨A',Nu,B',Nv,Jx,Ap⟩:=Ca k aA;obtain⟨c0,c1,c2,c3,c4,c5⟩:=dT Jx;have Bz:=Hd (Bx.o (aM x k) A' Nu B' Nv wr Ap);have Aq:=Hd (Ch.o k aA);have Bp:=Hd (Gx.o k aA HA.o);clear Ca Cb Jx Ap;cases hl:cV (aM x k)with
     |false=>
      rw[hl]at Bz;have Ke:=Hd (Aq.o hl);go_wp2_with fail;refine Bz.o.mono ?_;rintro r w2 ⟨rfl,Ad⟩;have Aj:=Hd (Bo.o.tr Ad);exact aN1
     |true=>
      rw[hl]at Bz;have Ke:=Hd (Bp.o hl);go_wp2_with fail;refine Bz.o.mono ?_;rintro r w2 ⟨rfl,Ad⟩;have Aj:=Hd (Bo.o.tr Ad);exact aNi
   . exact aNj
def kK(x:Ex):Bool:=
 if x.op<(if x.k==6 then 3 else if x.k==5 then 1 else 0)\/(if x.k==6 then 16 else if x.k==5 then 2 else 0)<x.op then false
 else if x.k==1 then decide (0<=x.n)else if(x.k==2 || x.k==13)then(x.n==0 || x.n==1)else x.n==0
theorem aT0(x:Ex)(A:Option Addr)(ca:Nat)(B:Option Addr)(cb:Nat)(w:World)(hr:aH w x A B):
 Calls Tryz.prog 185 #[.agg (aE x A ca B cb)] w fun e w'=>e=.returned (.bool (kK x))/\Below w.heap.size w w':=by
 have HF:=Hd fun w1 h=>fB w x A ca B cb w1 h hr;have HS:=Hd (show kK x=if x.op<(if x.k==6 then 3 else if x.k==5 then 1 else 0)\/(if x.k==6 then 16 else if x.k==5 then 2 else 0)<x.op then false
  else if x.k==1 then decide (0<=x.n)else if(x.k==2 || x.k==13)then(x.n==0 || x.n==1)else x.n==0 from rfl)
 clear hr;unfold aE at HF⊢;generalize kK x=Bu at *;generalize x.k=k at *;generalize x.op=o at *;generalize x.n=n at *;by_cases h1:k=1
 . subst h1;by_cases Eh:o<0;· exact aFr
   . by_cases Hj:0<o;· exact aFq
     . have HN:=Hd (show Bu=decide (0<=n)by rw[HS.o];simp[Eh,Hj]);cases hd:decide (0<=n)<;>rw[hd]at HN
       all_goals (
        go_in
        go_upto_region 1 with(fail);generalize Ag:w.alloc _=w1;obtain⟨Aa,hg,Av,hcell⟩:=HF.o w1 Ag;have Ac:=Hd Aa;obtain⟨q0,q1,-,q3,-,-⟩:=Sx (hcell w1 (Yg _ _));clear hcell Aa Av Ag HF;go_wp2_with fail;go_ret;exact⟨aL HN.o.symm,Ac.o⟩)
 . have e1:(k==1)=false:=by simpa using h1
   by_cases h2:k=2
   . subst h2;exact aP5
   . have e2:(k==2)=false:=by simpa using h2
     by_cases h5:k=5
     . subst h5;by_cases Eh:o<1;· exact aFr
       . by_cases Hj:2<o;· exact aFq
         . exact aQ7
     . have e5:(k==5)=false:=by simpa using h5
       by_cases h6:k=6
       . subst h6;by_cases Eh:o<3;· exact aFr
         . by_cases Hj:16<o;· exact aFq
           . exact aQ7
       . have e6:(k==6)=false:=by simpa using h6
         by_cases Bp:k=13
         . subst Bp;exact aP5
         . have Aq:(k==13)=false:=by simpa using Bp
           by_cases Eh:o<0
           . have HN:=Hd (show Bu=false by rw[HS.o,e1,e2,e5,e6,Aq];simp[Eh]);exact aRv
           . by_cases Hj:0<o
             . have HN:=Hd (show Bu=false by rw[HS.o,e1,e2,e5,e6,Aq];simp[Eh,Hj]);exact aRv
             . have HN:=Hd (show Bu=(n==0)by rw[HS.o,e1,e2,e5,e6,Aq];simp[Eh,Hj]);cases hd:(n==0)<;>rw[hd]at HN
               all_goals (
                go_in
                go_upto_region 1 with(fail);generalize Ag:w.alloc _=w1;obtain⟨Aa,hg,Av,hcell⟩:=HF.o w1 Ag;have Ac:=Hd Aa;obtain⟨q0,q1,-,q3,-,-⟩:=Sx (hcell w1 (Yg _ _));clear hcell Aa Av Ag HF;go_wp2_with fail;go_ret;exact⟨aL HN.o.symm,Ac.o⟩)
end
end Go.Proofs.YtkbpdoomhfkngaaGreat
