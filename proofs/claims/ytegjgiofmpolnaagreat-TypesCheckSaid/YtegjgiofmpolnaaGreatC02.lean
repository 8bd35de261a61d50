/- Parts of the proof: ExF, IdA, IdB, IdC, IdD, IdE, ExS. Conditions: each theorem's own. -/
import Derived.Laws.RangeAny
import Derived.Test.YtegjgiofmpolnaaGreatC01
namespace Go.Proofs.YtegjgiofmpolnaaGreat
set_option linter.unusedVariables false
set_option linter.unusedSimpArgs false
set_option maxRecDepth 100000
set_option maxHeartbeats 40000000
section
open Go.RowKit Go.Sort
theorem Yj:type_of% @World.cell?_alloc_lt:=@World.cell?_alloc_lt
theorem Ys:type_of% @Bool.and_eq_true:=@Bool.and_eq_true
theorem Yx:type_of% @List.take_of_length_le:=@List.take_of_length_le
theorem Zc:type_of% @Lib.toList_data:=@Lib.toList_data
theorem Zf:type_of% @List.all_eq_true:=@List.all_eq_true
theorem Zi:type_of% @List.getElem_of_mem:=@List.getElem_of_mem
theorem Zl:type_of% @Lib.size_eq:=@Lib.size_eq
theorem Zm:type_of% @Bool.eq_iff_iff:=@Bool.eq_iff_iff
theorem Zt:type_of% @bodyPost_ret:=@bodyPost_ret
theorem Xa:type_of% @beq_eq_false_iff_ne:=@beq_eq_false_iff_ne
end
section
open Go.RowKit Go.Sort
theorem mR{α:Type} [Inhabited α] {l:List α}{f:α->Bool}{i:Nat}(hi:i<l.length) (h:f (l[i]?.getD default)=false):l.all f=false:=by
 rw [List.all_eq_false];refine⟨l[i]?.getD default,?_,by simp [h]⟩;rw [Yk hi];exact Zg _
theorem oS{α:Type} [Inhabited α] {l:List α}{f:α->Bool}{k:Nat}(hk:k<l.length) (h:(l.take k).all f=true) (hx:f (l[k]?.getD default)=true):(l.take (k+1)).all f=true:=by
 rw [List.take_succ_eq_append_getElem hk,List.all_append,h,Bool.true_and];rw [Yk hk] at hx
 simpa using hx
theorem oT{α:Type}{l:List α}{f:α->Bool}{k:Nat}(h:(l.take k).all f=true) (hk:l.length<=k):l.all f=true:=by rwa [Yx hk] at h
instance :Inhabited ByteArray:=⟨ByteArray.empty⟩
def nH(t:ByteArray):Bool:=!decide (100<t.size)
def iQ(p:Ex):Bool:=!decide (200<p.s.size) && !decide (20<p.arms.length) && p.arms.all nH
def kO(x:Ex):Bool:=decide (bG x<200) && (bI x).all iQ
theorem aRf(x:Ex) (A:Option Addr) (ca:Nat) (B:Option Addr) (cb:Nat) (w:World) (hr:aJ w x A B) (hs:bG x<=1000000):
 Calls Tryz.prog 33 #[.agg (aE x A ca B cb)] w fun e w'=>e=.returned (.bool ((bI x).all iQ))/\Below w.heap.size w w':=by
 have HF:=Hd fun w1 h=>eC w x A ca B cb w1 h hr;have HP:=Hd fun w1 (h:Below w.heap.size w w1)=>wX x A ca B cb w w1 hr h hs;have Ap:=Hd (pV x);have Bc:=qC x;clear hr;unfold aE at HF HP ⊢
 go_enter Tryz.func33,Tryz.ntmps33
 go_upto_region 1 with(fail)
 generalize Aq:w.alloc _=w1;obtain⟨Ai,hg,Ay,Ab⟩:=HF.o w1 Aq;have Au:=Hd Ai;have Ao:=Hd (HP.o w1 Ai);obtain⟨q0,q1,q2,q3,q4,q5⟩:=Sx (Ab w1 (Yg _ _));clear Ab Ai Ay Aq HF HP
 go_wp2_with fail
 refine Ao.o.mono ?_;rintro r w2 ⟨A2,c2,Az,rfl,Ac,Ad,Am,_⟩;have Ae:=Hd (Au.o.trans (Am.mono Au.o.size));have Aw:=Hd (Ac.rd Ad Ae.o);clear Ac Ad Am q0 q1 q2 q3 q4 q5 Ao;generalize hl:bI x=l at *;have Ag:=Hd hl;generalize hn:bG x=n at *
 go_wp2_with fail
 go_loopw [4] (fun i wr=>∃ k:Nat,k<=n/\i=.int .i64 k/\w2=wr/\(l.take k).all iQ=true) (fun i _=>n-(intOf i).toNat)
 case atStart=>exact⟨0,Yq _,rfl,rfl,by simp⟩
 case round=>
  obtain⟨k,hk,rfl,rfl,Aa⟩:=hrel;have HA:=Hd Aa;clear Aa
  by_cases Aj:k<n
  . obtain⟨b,Bb,rfl,hb,An⟩:=Aw.o.at_ Aj;obtain⟨A',Bd,B',Ba,Ar,Al⟩:=An k Aj;obtain⟨c0,c1,c2,c3,c4,c5⟩:=eG Ar;have Ax:=Hd Al.arms;have HK:=Hd (show k<l.length by rw [Ap.o];exact Aj);clear An Ar Al;generalize hp:l[k]?.getD default=p at *;have Ah:=Hd hp
    by_cases h1:200<p.s.size
    . have HN:=Hd (mR (f:=iQ) HK.o (by rw [Ah.o];simp [iQ,h1]))
      go_wp2_with fail
      go_ret
      exact⟨aF (by first | exact HN.o.symm | (rw [Ag.o];exact HN.o.symm)),Ae.o⟩
    . by_cases h2:20<p.arms.length
      . have HN:=Hd (mR (f:=iQ) HK.o (by rw [Ah.o];simp [iQ,h2]))
        go_wp2_with fail
        go_ret
        exact⟨aF (by first | exact HN.o.symm | (rw [Ag.o];exact HN.o.symm)),Ae.o⟩
      . generalize hm:p.arms.length=m at *;have HM:=Hd hm
        go_wp2_with fail
        go_loopw [5] (fun j wr=>∃ i:Nat,i<=m/\j=.int .i64 i/\w2=wr/\(p.arms.take i).all nH=true) (fun j _=>m-(intOf j).toNat)
        case atStart=>exact⟨0,Yq _,rfl,rfl,by simp⟩
        case round=>
         obtain⟨i,hi,rfl,rfl,Aa⟩:=hrel;have HJ:=Hd Aa;clear Aa
         by_cases Ak:i<m
         . obtain⟨b3,Av,rfl,Bf,As⟩:=Ax.o.at_ Ak;have Be:=As i Ak;have HI:=Hd (show i<p.arms.length by rw [HM.o];exact Ak);clear As;generalize ht:p.arms[i]?.getD ByteArray.empty=t at *;have HT:=Hd ht
           by_cases h3:100<t.size
           . have HN:=Hd (mR (f:=nH) HI.o (by show nH (p.arms[i]?.getD ByteArray.empty)=false;rw [HT.o];simp [nH,h3]));have Af:=Hd (mR (f:=iQ) HK.o (by rw [Ah.o];unfold iQ;rw [HN.o];simp))
             go_wp2_with fail
             go_ret
             exact⟨aF (by first | exact Af.o.symm | (rw [Ag.o];exact Af.o.symm)),Ae.o⟩
           . have HN:=Hd (oS (f:=nH) HI.o HJ.o (by show nH (p.arms[i]?.getD ByteArray.empty)=true;rw [HT.o];simp [nH,h3]))
             go_wp2_with fail
             go_roundw
             case rel=>exact⟨i+1,by omega,by go_num,(by first | trivial | rfl),HN.o⟩
             case measure=>simp [intOf];omega
         . have HN:=Hd (oT HJ.o (by rw [HM.o];omega));have Af:=Hd (oS (f:=iQ) HK.o HA.o (by rw [Ah.o];unfold iQ;rw [HN.o,HM.o];simp [h1,h2]))
           go_wp2_with fail
           go_roundw
           case rel=>exact⟨k+1,by omega,by go_num,(by first | trivial | rfl),Af.o⟩
           case measure=>simp [intOf];omega
  . have HN:=Hd (oT HA.o (by rw [Ap.o];omega))
    go_wp2_with fail
    go_ret
    exact⟨aF (by first | exact HN.o.symm | (rw [Ag.o];exact HN.o.symm)),Ae.o⟩
theorem aLy(x:Ex) (A:Option Addr) (ca:Nat) (B:Option Addr) (cb:Nat) (w:World) (hr:aJ w x A B):
 Calls Tryz.prog 10 #[.agg (aE x A ca B cb)] w fun e w'=>e=.returned (.bool (kO x))/\Below w.heap.size w w':=by
 have HF:=Hd fun w1 h=>eC w x A ca B cb w1 h hr;have Ac:=Hd fun w1 (h:aJ w1 x A B)=>aLw x A ca B cb w1 h 200 (by omega);have Ah:=Hd fun w1 (h:aJ w1 x A B) (h2:bG x<=1000000)=>aRf x A ca B cb w1 h h2;have HT:=Hd (show kO x=(decide (bG x<200) && (bI x).all iQ) from rfl);clear hr;unfold aE at HF Ac Ah ⊢
 by_cases hs:bG x<200
 . obtain⟨q,hq⟩:∃ q,200-bG x=q+1:=⟨199-bG x,by omega⟩;rw [hq] at Ac;have Aj:=Hd (show kO x=(bI x).all iQ by rw [HT.o];simp [hs]);clear hq HT
   go_enter Tryz.func10,Tryz.ntmps10
   go_upto_region 1 with(fail)
   generalize Af:w.alloc _=w1;obtain⟨Ae,hg,Ad,Aa⟩:=HF.o w1 Af;have Ag:=Hd Ae;have Ak:=Hd (Ac.o w1 Ad);have An:=Hd Ad;obtain⟨q0,q1,q2,q3,q4,q5⟩:=Sx (Aa w1 (Yg _ _));have Am:=Hd Aa;clear Aa Ae Ad Af HF Ac
   go_wp2_with fail
   refine Ak.o.mono ?_;rintro r w2 ⟨rfl,Ab⟩;have Ai:=Hd (Ag.o.trans (Ab.mono Ag.o.size));have Ap:=Hd (Ah.o w2 (An.o.below Ab) (by omega));clear q0 q1 q2 q3 q4 q5;obtain⟨q0,q1,q2,q3,q4,q5⟩:=Sx (Am.o w2 Ab);clear Ab Am Ah
   go_wp2_with fail
   refine Ap.o.mono ?_;rintro r w3 ⟨rfl,Al⟩;have Ao:=Hd (Ai.o.trans (Al.mono Ai.o.size));clear Al;generalize hb:(bI x).all iQ=bb at *
   go_wp2_with fail
   go_ret
   exact⟨aF (by rw [Aj.o]),Ao.o⟩
 . have hq:200-bG x=0:=by omega
   rw [hq] at Ac;have Aj:=Hd (show kO x=false by rw [HT.o];simp [hs]);clear hq HT Ah
   go_enter Tryz.func10,Tryz.ntmps10
   go_upto_region 1 with(fail)
   generalize Af:w.alloc _=w1;obtain⟨Ae,hg,Ad,Aa⟩:=HF.o w1 Af;have Ag:=Hd Ae;have Ak:=Hd (Ac.o w1 Ad);obtain⟨q0,q1,q2,q3,q4,q5⟩:=Sx (Aa w1 (Yg _ _));clear Aa Ae Ad Af HF Ac
   go_wp2_with fail
   refine Ak.o.mono ?_;rintro r w2 ⟨rfl,Ab⟩;have Ai:=Hd (Ag.o.trans (Ab.mono Ag.o.size));clear Ab
   go_wp2_with fail
   go_ret
   exact⟨aF Aj.o.symm,Ai.o⟩
end
section
open Go.RowKit
theorem oA(x:Int) (w:World):Calls Tryz.prog 168 #[.int .i32 x] w fun e w'=>e=.returned (.bool (fU x))/\w=w':=by
 by_cases h1:97<=x
 all_goals
  go_enter Tryz.func168,Tryz.ntmps168
  go_wp2
  go_ret
  exact⟨aF (by rw [Zm];simp [fU,h1] <;> omega),rfl⟩
theorem pC(x:Int) (w:World):Calls Tryz.prog 174 #[.int .i32 x] w fun e w'=>e=.returned (.bool (iP x))/\w=w':=by
 by_cases h1:65<=x
 all_goals
  go_enter Tryz.func174,Tryz.ntmps174
  go_wp2
  go_ret
  exact⟨aF (by rw [Zm];simp [iP,h1] <;> omega),rfl⟩
theorem xQ(x:Int) (w:World):Calls Tryz.prog 183 #[.int .i32 x] w fun e w'=>e=.returned (.bool (fM x))/\w=w':=by
 by_cases h1:48<=x
 all_goals
  go_enter Tryz.func183,Tryz.ntmps183
  go_wp2
  go_ret
  exact⟨aF (by rw [Zm];simp [fM,h1] <;> omega),rfl⟩
theorem lZ(x:Int) (w:World):Calls Tryz.prog 179 #[.int .i32 x] w fun e w'=>e=.returned (.bool (dD x))/\w=w':=by
 by_cases h1:fU x=true
 . go_enter Tryz.func179,Tryz.ntmps179
   go_wp2_with fail
   refine(oA x _).mono ?_;rintro e w' ⟨rfl,rfl⟩
   go_wp2_with fail
   go_ret
   exact⟨aF (by simp [dD,h1]),rfl⟩
 . have h1:fU x=false:=by simpa using h1
   by_cases h2:iP x=true
   . go_enter Tryz.func179,Tryz.ntmps179
     go_wp2_with fail
     refine(oA x _).mono ?_;rintro e w' ⟨rfl,rfl⟩
     go_wp2_with fail
     refine(pC x _).mono ?_;rintro e w' ⟨rfl,rfl⟩
     go_wp2_with fail
     go_ret
     exact⟨aF (by simp [dD,h2]),rfl⟩
   . have h2:iP x=false:=by simpa using h2
     by_cases h3:fM x=true
     all_goals
      go_enter Tryz.func179,Tryz.ntmps179
      go_wp2_with fail
      refine(oA x _).mono ?_;rintro e w' ⟨rfl,rfl⟩
      go_wp2_with fail
      refine(pC x _).mono ?_;rintro e w' ⟨rfl,rfl⟩
      go_wp2_with fail
      refine(xQ x _).mono ?_;rintro e w' ⟨rfl,rfl⟩
      go_wp2_with fail
      go_ret
      exact⟨aF (by rw [Zm];simp [dD,h1,h2,h3]),rfl⟩
theorem aGj(s:ByteArray) (c:Int) (w:World):
 Calls Tryz.prog 185 #[.string s,.int .u8 c] w fun e w'=>e=.returned (.int .i64 (Lib.indexByte s.data.toList c.toNat.toUInt8))/\w=w':=by
 go_enter Tryz.func185,Tryz.ntmps185
 go_wp2
 rw [run_callFunc_extern Tryz.func189 (by kernel_rfl) (by kernel_rfl) (by kernel_rfl) (e:=Extern.BytealgIndexByte.indexByte) (by kernel_rfl),Lib.run_indexByteString];simp only [Result.andThen];rw [Oper.upon_value]
 go_wp2
 go_ret
 exact⟨rfl,rfl⟩
theorem aB0(s:ByteArray) (c:UInt8) (w:World):
 Calls Tryz.prog 184 #[.string s,.string ⟨#[c]⟩] w fun e w'=>e=.returned (.int .i64 (Lib.indexByte s.data.toList c))/\w=w':=by
 go_enter Tryz.func184,Tryz.ntmps184
 go_wp2_with (go_at_call 185;refine(aGj _ _ _).mono ?_;rintro e w' ⟨rfl,rfl⟩)
 . have h:([c]==s.toList)=true:=by assumption
   go_ret
   refine⟨?_,rfl⟩;have e:s.data.toList=[c]:=by rw [<- Zc];exact(beq_iff_eq.1 h).symm
   rw [e]
   simp [Lib.indexByte]
 . go_ret
   refine⟨cF ?_,rfl⟩
   congr 1
def sL(c:UInt8) (s:ByteArray) (w:World) (e:Ending) (w':World):Prop:=
 ∃ (a b:ByteArray) (f:Bool),e=.returned (.tuple #[.string a,.string b,.bool f])/\Below w.heap.size w w'/\c∉a.data.toList /\
  (f=false->s.data.toList=a.data.toList)/\(f=true->s.data.toList=a.data.toList++c::b.data.toList)
theorem aOs{c:UInt8}{s:ByteArray}{w:World}(h:Lib.indexByte s.data.toList c<0):
 sL c s w (.returned (.tuple #[.string s,.string ⟨#[]⟩,.bool false])) w:=
 ⟨s,_,false,rfl,Yg _ _,aHg h,fun _=>rfl,fun h=>by cases h⟩
theorem aLz{c:UInt8}{s:ByteArray}{w:World}{k m:Nat}{n:Nat}(hn:n=s.size) (h2:k<s.data.toList.length) (h3:c∉s.data.toList.take k) (h4:s.data.toList=s.data.toList.take k++c::s.data.toList.drop (k+1)):
 sL c s w (.returned (.tuple #[.string (s.extract 0 k),.string (s.extract (k+1) n),.bool true])) (w.drewN m):=by
 subst hn;have e1:(s.extract 0 k).data.toList=s.data.toList.take k:=by rw [Lib.extract_data];simp
 have e2:(s.extract (k+1) s.size).data.toList=s.data.toList.drop (k+1):=by
  rw [Lib.extract_data,Yx (by rw [Zl];simp)]
 refine⟨_,_,true,rfl,aY (Yg _ _) m,?_,fun h=>by(cases h),fun _=>?_⟩
 . rw [e1];exact h3
 . rw [e1,e2];exact h4
theorem aOt(s:ByteArray) (c:UInt8) (w:World) (hs:s.size<=9223372036854775806):
 Calls Tryz.prog 181 #[.string s,.string ⟨#[c]⟩] w (sL c s w):=by
 rcases(show Lib.indexByte s.data.toList c<0\/0<=Lib.indexByte s.data.toList c by omega) with h | h
 . have HC:=Hd (aOs (w:=w) h);have Aa:=Lib.indexByte_ge s.data.toList c;generalize hi:Lib.indexByte s.data.toList c=i at h Aa;have HI:=Hd hi;clear hi
   go_enter Tryz.func181,Tryz.ntmps181
   go_wp2_with fail
   refine(aB0 s c _).mono ?_;rintro e w' ⟨rfl,rfl⟩;rw [HI.o]
   go_wp2_with fail
   exact Zt (v:=.tuple #[.string s,.string ⟨#[]⟩,.bool false]) (by simp [results,Tryz.results181,go_sem]) rfl HC.o
 . obtain⟨k,hi,h2,h3,h4⟩:=aHh h;have HC:=fun m=>Hd (aLz (w:=w) (m:=m) (n:=s.size) rfl h2 h3 h4);have hk:k<s.size:=by rw [Zl];exact h2
   have HI:=Hd hi;clear hi h h2 h3 h4;have h5:IntKind.i64.wrap ((k:Int)+1)=(k:Int)+1:=IntWalk.i64_in _ (by omega);have h6:((k:Int)+1).toNat=k+1:=by omega
   have h7:(0:Int)<=(k:Int)+1:=by omega
   go_enter Tryz.func181,Tryz.ntmps181
   go_wp2_with fail
   refine(aB0 s c _).mono ?_;rintro e w' ⟨rfl,rfl⟩;rw [HI.o]
   go_wp2_with fail
   go_quiet (fail)
   go_wp2_with fail
   exact Zt (v:=.tuple #[.string (s.extract 0 k),.string (s.extract (k+1) s.size),.bool true]) (by simp [results,Tryz.results181,go_sem]) rfl (HC _).o
theorem aE4(s:ByteArray) (c:UInt8) (w:World) (hs:s.size<=9223372036854775806):
 Calls Tryz.prog 175 #[.string s,.string ⟨#[c]⟩] w (sL c s w):=by
 go_enter Tryz.func175,Tryz.ntmps175
 go_wp2_with fail
 refine(aOt s c _ hs).mono ?_;rintro e w' ⟨a,b,f,rfl,hb,hc,hf,ht⟩;have H:Hid (sL c s w (.returned (.tuple #[.string a,.string b,.bool f])) w'):=Hd ⟨a,b,f,rfl,hb,hc,hf,ht⟩;clear hb hc hf ht
 go_wp2_with fail
 exact Zt (v:=.tuple #[.string a,.string b,.bool f]) (by simp [results,Tryz.results175,go_sem]) rfl H.o
end
section
open Go.RowKit
theorem aC2{s:ByteArray}{l:List UInt8}(h:(s.toList==l)=true) (hl:l∈mY):mF s.data.toList=true:=by
 rw [Zc] at h;rw [beq_iff_eq.1 h]
 simp [mF,hl]
theorem aJb{s:ByteArray}{l:List UInt8}(h:(s.toList==l)=true) (h2:(s.toList==l)=false):False:=by
 rw [h] at h2
 cases h2
theorem aEa{s:ByteArray}(h:∀ l∈mY,(s.toList==l)=false):mF s.data.toList=false:=by
 simp only [mF,decide_eq_false_iff_not];intro hm;have:=h _ hm;rw [Zc] at this
 simp at this
theorem aRg(s:ByteArray) (w:World):Calls Tryz.prog 169 #[.string s] w fun e w'=>e=.returned (.bool (mF s.data.toList))/\w=w':=by
 go_enter Tryz.func169,Tryz.ntmps169
 go_wp2
 all_goals
  go_ret
  first
   | exact⟨aF (aC2 (by assumption) (by decide)).symm,rfl⟩
   | (exfalso;exact aJb (by assumption) (by assumption))
   | exact⟨aF (aEa (fun l hl=>by simp only [mY,Yu,List.not_mem_nil,or_false] at hl;rcases hl with h | h | h | h | h | h | h | h | h | h | h | h | h | h | h | h | h | h | h | h | h | h | h | h <;> subst h <;> assumption)).symm,rfl⟩
end
section
open Go.RowKit
def oF:List ByteArray:=mY.map fun l=>⟨l.toArray⟩
theorem aJc(k:Nat) (h:k<24):∃ (l:List UInt8) (x:ByteArray),oF[k]?=some x/\x.toList=l/\l∈mY:=by
 have hl:k<mY.length:=h;refine⟨mY[k],⟨mY[k].toArray⟩,?_,?_,Zg hl⟩
 . simp [oF,Yk hl]
 . rw [Zc]
theorem aHi{s:ByteArray}(h:∀ j,j<24->((oF[j]?.getD ByteArray.empty).toList==s.toList)=false):mF s.data.toList=false:=by
 apply aEa
 intro l hl;obtain⟨k,hk,e⟩:=Zi hl;have h1:=h k hk
 have h2:oF[k]?=some ⟨l.toArray⟩:=by
  simp [oF,Yk hk,e]
 rw [h2] at h1;simp only [Yt,Zc] at h1;rw [Zc];rw [Xa] at h1 ⊢;exact fun e=>h1 e.symm
theorem aL0(w:World):Calls Tryz.prog 131 #[] w fun e w'=>∃ A,e=.returned (.slice A 24 24)/\aN w' A 24 oF/\Below w.heap.size w w':=by
 have HL:=Hd fun(cs:Array Value) (T:TypeId)=>aN.lit w T oF 24 rfl (by omega) cs
 go_enter Tryz.func131,Tryz.ntmps131
 go_wp2
 go_ret
 exact⟨_,rfl,HL.o _ _ (by rfl),(Yg _ _).alloc (Yh _) _⟩
theorem aOu(s:ByteArray) (w:World):Calls Tryz.prog 84 #[.string s] w fun e w'=>e=.returned (.bool (mF s.data.toList))/\Below w.heap.size w w':=by
 go_enter Tryz.func84,Tryz.ntmps84
 go_wp2_with fail
 refine(aL0 _).mono ?_;rintro e w' ⟨A,rfl,Ag,Ab⟩;have HB:=Hd Ab;obtain⟨b,Ai,rfl,hb,hc⟩:=Ag.at_ (i:=0) (by omega);have HC:=Hd hc;clear Ab Ag hc
 go_wp2_with fail
 go_loop [4] (fun i=>∃ k:Nat,k<=24/\i=.int .i64 k/\∀ j,j<k->((oF[j]?.getD ByteArray.empty).toList==s.toList)=false) (fun i=>24-(intOf i).toNat)
 case atStart=>exact⟨0,Yq _,rfl,fun j hj=>absurd hj (by omega)⟩
 case round=>
  obtain⟨k,hk,rfl,Aa⟩:=hrel;have HA:=Hd Aa;clear Aa
  by_cases Af:k<24
  . obtain⟨l,x,hx,Ad,hm⟩:=aJc k Af;have Ae:=HC.o k Af;rw [hx] at Ae;simp only [Yt] at Ae;have HX:=Hd hx;have Ah:=Hd Ad;clear hx Ad
    by_cases Ac:(x.toList==s.toList)=true
    . go_wp2
      go_ret
      refine⟨aF ?_,HB.o⟩;exact(aC2 (l:=l) (by rw [beq_iff_eq] at Ac ⊢;rw [<- Ac,Ah.o]) hm).symm
    . have Ac:(x.toList==s.toList)=false:=by simpa using Ac
      have HE:=Hd Ac
      go_wp2
      go_round
      case rel=>
       refine⟨k+1,by omega,by go_num,fun j hj=>?_⟩;rcases Nat.lt_or_ge j k with h | h
       . exact HA.o j h
       . obtain rfl:j=k:=by omega
         rw [HX.o];exact HE.o
      case measure=>simp [intOf];omega
  . go_wp2
    go_ret
    exact⟨aF (aHi fun j hj=>HA.o j (by omega)).symm,HB.o⟩
end
section
open Go.RowKit
section
variable {P:Int->Bool}{s:ByteArray}
theorem pD(s:ByteArray) (k:Nat) (h:k<s.size):s.data.toList[k]'(by rw [<- Zl];exact h)=s[k]'h:=rfl
theorem tO(h:s.size<1\/12<s.size):eT P s.data.toList=false:=by
 have:¬ (1<=s.data.toList.length/\s.data.toList.length<=12):=by rw [<- Zl];omega
 simp only [eT,Zy this,Bool.false_and]
theorem aRh(s:ByteArray) (k:Nat) (h:k<s.size):s.data.toList[k]?=some (s[k]'h):=by
 rw [<- pD s k h,Yk]
theorem uE(h:0<s.size):∃ F,s.data.toList=s[0]'h::F:=by
 have hl:=aRh s 0 h;generalize s[0]'h=c at hl ⊢
 cases e:s.data.toList with
 | nil=>rw [e] at hl;simp at hl
 | cons d F=>rw [e] at hl;simp at hl;exact⟨F,by rw [hl]⟩
theorem aAs(h:0<s.size) (hp:P ((s[0]'h).toNat:Int)=false):eT P s.data.toList=false:=by
 obtain⟨F,e⟩:=uE h;rw [e];simp only [eT,hp,Bool.and_false,Bool.false_and]
theorem uF{k:Nat}(h:k<s.size) (hp:dD ((s[k]'h).toNat:Int)=false):eT P s.data.toList=false:=by
 have hm:s[k]'h∈s.data.toList:=by rw [<- pD s k h];exact Zg _
 cases hn:eT P s.data.toList with
 | false=>rfl
 | true=>rw [aJa hn _ hm] at hp;cases hp
theorem aC3(h1:0<s.size) (h2:s.size<=12) (hp:P ((s[0]'h1).toNat:Int)=true) (ha:∀ k (h:k<s.size),dD ((s[k]'h).toNat:Int)=true):eT P s.data.toList=true:=by
 have hz:=Zl s
 have Ab:s.data.toList.all (fun c=>dD (c.toNat:Int))=true:=by
  rw [Zf];intro c hc;obtain⟨k,hk,e⟩:=Zi hc;rw [<- e,pD s k (by omega)];exact ha k (by omega)
 have Aa:decide (1<=s.data.toList.length/\s.data.toList.length<=12)=true:=Zx (by omega);obtain⟨F,e⟩:=uE h1;unfold eT;rw [Ab,Aa,e];simp only [hp,Bool.and_true]
end
theorem vR{x:Int}(h:128<=x):dD x=false:=by
 cases hn:dD x with
 | false=>rfl
 | true=>have:=aLs hn;omega
theorem xR{P:Program}(w:World) (s:ByteArray) (pos:Nat) (h:pos<s.size):
 ∃ (x:Int) (q:Nat),(∀ ty,(Instr.next (.pointer (some ⟨w.heap.size,0,none⟩)) true ty).run P (w.iter s pos)=.ok (.tuple #[.bool true,.int .i64 pos,.int .i32 x]) (w.iter s q)) /\
  ((x=((s[pos]'h).toNat:Int)/\q=pos+1)\/(128<=x/\128<=(s[pos]'h).toNat/\pos<q)):=by
 by_cases ha:(s[pos]'h).toNat<128
 . exact⟨_,_,fun ty=>run_next_ascii (P:=P) w s pos ty h ha,.inl ⟨rfl,rfl⟩⟩
 . have:=decode_high s pos h (by omega);exact⟨_,_,fun ty=>run_next_any (P:=P) w s pos ty h,.inr ⟨by omega,by omega,by omega⟩⟩
theorem lT(w:World) (s:ByteArray) (q:Nat):Below w.heap.size w (w.iter s q):=(Yg _ _).alloc (Yh _) _
def qO(P:Int->Bool) (s:ByteArray) (pos:Nat):Prop:=
 (∀ k (h:k<s.size),k<pos->dD ((s[k]'h).toNat:Int)=true)/\(0<pos->∀ h:0<s.size,P ((s[0]'h).toNat:Int)=true)
section
variable {P:Int->Bool}{s:ByteArray}{pos q:Nat}{x:Int}
theorem aAc:qO P s 0:=⟨fun k h hk=>absurd hk (by omega),fun h=>absurd h (by omega)⟩
theorem rJ(hp:pos<s.size) (hx:(x=((s[pos]'hp).toNat:Int)/\q=pos+1)\/(128<=x/\128<=(s[pos]'hp).toNat/\pos<q)):pos<q:=by
 rcases hx with⟨_,h⟩|⟨_,_,h⟩ <;> omega
theorem nL(H:qO P s pos) (hp:pos<s.size) (hx:(x=((s[pos]'hp).toNat:Int)/\q=pos+1)\/(128<=x/\128<=(s[pos]'hp).toNat/\pos<q))
 (h1:pos=0->P x=true) (h2:dD x=true):q<=s.size/\qO P s q:=by
 rcases hx with⟨rfl,rfl⟩|⟨h,_,_⟩
 . refine⟨by omega,fun k hk Aa=>?_,fun _ h0=>?_⟩
   . rcases Nat.lt_or_ge k pos with h | h
     . exact H.1 k hk h
     . obtain rfl:k=pos:=by omega
       exact h2
   . rcases Nat.eq_zero_or_pos pos with h | h
     . subst h;exact h1 rfl
     . exact H.2 h h0
 . rw [vR h] at h2
   cases h2
theorem tA(hp:pos<s.size) (hx:(x=((s[pos]'hp).toNat:Int)/\q=pos+1)\/(128<=x/\128<=(s[pos]'hp).toNat/\pos<q)) (h2:dD x=false):eT P s.data.toList=false:=by
 rcases hx with⟨rfl,rfl⟩|⟨_,h,_⟩
 . exact uF hp h2
 . exact uF hp (vR (by omega))
theorem zR(hz:pos=0) (hp:pos<s.size) (hx:(x=((s[pos]'hp).toNat:Int)/\q=pos+1)\/(128<=x/\128<=(s[pos]'hp).toNat/\pos<q)) (h2:P x=false):eT P s.data.toList=false:=by
 subst hz;rcases hx with⟨rfl,rfl⟩|⟨_,h,_⟩
 . exact aAs hp h2
 . exact uF hp (vR (by omega))
theorem aAt(H:qO P s pos) (h0:0<s.size) (Aa:s.size<=12) (he:s.size<=pos):eT P s.data.toList=true:=
 aC3 h0 Aa (H.2 (by omega) h0) fun k h=>H.1 k h (by omega)
end
theorem yL(K:FuncId) (P:Int->Bool) (hK:(K=168/\P=fU)\/(K=174/\P=iP)) (s:ByteArray) (w:World) (hs:s.size<=9223372036854775807):
 Calls Tryz.prog 167 #[.string s,.func (.func K) #[] #[]] w fun e w'=>e=.returned (.bool (eT P s.data.toList))/\Below w.heap.size w w':=by
 by_cases h1:s.size<1
 . go_enter Tryz.func167,Tryz.ntmps167
   go_wp2
   go_ret
   exact⟨aF (tO (.inl h1)).symm,Yg _ _⟩
 . by_cases h2:12<s.size
   . go_enter Tryz.func167,Tryz.ntmps167
     go_wp2
     go_ret
     exact⟨aF (tO (.inr h2)).symm,Yg _ _⟩
   . have Ag:decide ((s.size:Int)<1)=false:=Zy (by omega);have Af:decide ((12:Int)<(s.size:Int))=false:=Zy (by omega);have h0:0<s.size:=by omega
     have Ae:s.size<=12:=by omega
     clear h1 h2;rcases hK with⟨rfl,rfl⟩|⟨rfl,rfl⟩
     . go_enter Tryz.func167,Tryz.ntmps167
       go_wp2_with fail
       clear Ag Af
       go_loopw [5] (fun _ wr=>∃ pos:Nat,pos<=s.size/\wr=w.iter s pos/\qO fU s pos) (fun _ wr=>s.size-wr.iterPos w.heap.size)
       case atStart=>exact⟨0,by omega,rfl,aAc⟩
       case round=>
        obtain⟨pos,Ah,rfl,hrel⟩:=hrel;have HR:=Hd hrel;clear hrel
        by_cases hp:pos<s.size
        . obtain⟨x,q,Ad,hx⟩:=xR (P:=Tryz.prog) w s pos hp;have HX:=Hd hx;clear hx;have Ab:((pos:Int)==0)=decide (pos=0):=by rw [Zm];simp
          generalize (pos:Int)=pi at Ad Ab
          by_cases hz:pos=0
          . have Ab:(pi==0)=true:=by rw [Ab];exact Zx hz
            have HZ:=Hd hz;clear hz
            by_cases Ac:fU x=true
            . by_cases Aa:dD x=true
              . go_wp2_with (first | (go_at_call 168;refine(oA x _).mono ?_;rintro e w' ⟨rfl,rfl⟩) | (go_at_call 179;refine(lZ x _).mono ?_;rintro e w' ⟨rfl,rfl⟩))
                go_roundw
                case rel=>exact⟨q,(nL HR.o hp HX.o (fun _=>Ac) Aa).1,rfl,(nL HR.o hp HX.o (fun _=>Ac) Aa).2⟩
                case measure=>simp;have:=rJ hp HX.o;omega
              . have Aa:dD x=false:=by simpa using Aa
                go_wp2_with (first | (go_at_call 168;refine(oA x _).mono ?_;rintro e w' ⟨rfl,rfl⟩) | (go_at_call 179;refine(lZ x _).mono ?_;rintro e w' ⟨rfl,rfl⟩))
                go_ret
                exact⟨aF (tA hp HX.o Aa).symm,lT _ _ _⟩
            . have Ac:fU x=false:=by simpa using Ac
              go_wp2_with (first | (go_at_call 168;refine(oA x _).mono ?_;rintro e w' ⟨rfl,rfl⟩) | (go_at_call 179;refine(lZ x _).mono ?_;rintro e w' ⟨rfl,rfl⟩))
              go_ret
              exact⟨aF (zR HZ.o hp HX.o Ac).symm,lT _ _ _⟩
          . have Ab:(pi==0)=false:=by rw [Ab];exact Zy hz
            have HZ:=Hd hz;clear hz
            by_cases Aa:dD x=true
            . go_wp2_with (first | (go_at_call 168;refine(oA x _).mono ?_;rintro e w' ⟨rfl,rfl⟩) | (go_at_call 179;refine(lZ x _).mono ?_;rintro e w' ⟨rfl,rfl⟩))
              go_roundw
              case rel=>exact⟨q,(nL HR.o hp HX.o (fun h=>absurd h HZ.o) Aa).1,rfl,(nL HR.o hp HX.o (fun h=>absurd h HZ.o) Aa).2⟩
              case measure=>simp;have:=rJ hp HX.o;omega
            . have Aa:dD x=false:=by simpa using Aa
              go_wp2_with (first | (go_at_call 168;refine(oA x _).mono ?_;rintro e w' ⟨rfl,rfl⟩) | (go_at_call 179;refine(lZ x _).mono ?_;rintro e w' ⟨rfl,rfl⟩))
              go_ret
              exact⟨aF (tA hp HX.o Aa).symm,lT _ _ _⟩
        . have Ad:∀ ty,(Instr.next (.pointer (some ⟨w.heap.size,0,none⟩)) true ty).run Tryz.prog (w.iter s pos)=_:=fun ty=>run_next_end w s pos ty hp
          go_wp2_with fail
          go_ret
          exact⟨aF (aAt HR.o h0 Ae (by omega)).symm,lT _ _ _⟩
     . go_enter Tryz.func167,Tryz.ntmps167
       go_wp2_with fail
       clear Ag Af
       go_loopw [5] (fun _ wr=>∃ pos:Nat,pos<=s.size/\wr=w.iter s pos/\qO iP s pos) (fun _ wr=>s.size-wr.iterPos w.heap.size)
       case atStart=>exact⟨0,by omega,rfl,aAc⟩
       case round=>
        obtain⟨pos,Ah,rfl,hrel⟩:=hrel;have HR:=Hd hrel;clear hrel
        by_cases hp:pos<s.size
        . obtain⟨x,q,Ad,hx⟩:=xR (P:=Tryz.prog) w s pos hp;have HX:=Hd hx;clear hx;have Ab:((pos:Int)==0)=decide (pos=0):=by rw [Zm];simp
          generalize (pos:Int)=pi at Ad Ab
          by_cases hz:pos=0
          . have Ab:(pi==0)=true:=by rw [Ab];exact Zx hz
            have HZ:=Hd hz;clear hz
            by_cases Ac:iP x=true
            . by_cases Aa:dD x=true
              . go_wp2_with (first | (go_at_call 174;refine(pC x _).mono ?_;rintro e w' ⟨rfl,rfl⟩) | (go_at_call 179;refine(lZ x _).mono ?_;rintro e w' ⟨rfl,rfl⟩))
                go_roundw
                case rel=>exact⟨q,(nL HR.o hp HX.o (fun _=>Ac) Aa).1,rfl,(nL HR.o hp HX.o (fun _=>Ac) Aa).2⟩
                case measure=>simp;have:=rJ hp HX.o;omega
              . have Aa:dD x=false:=by simpa using Aa
                go_wp2_with (first | (go_at_call 174;refine(pC x _).mono ?_;rintro e w' ⟨rfl,rfl⟩) | (go_at_call 179;refine(lZ x _).mono ?_;rintro e w' ⟨rfl,rfl⟩))
                go_ret
                exact⟨aF (tA hp HX.o Aa).symm,lT _ _ _⟩
            . have Ac:iP x=false:=by simpa using Ac
              go_wp2_with (first | (go_at_call 174;refine(pC x _).mono ?_;rintro e w' ⟨rfl,rfl⟩) | (go_at_call 179;refine(lZ x _).mono ?_;rintro e w' ⟨rfl,rfl⟩))
              go_ret
              exact⟨aF (zR HZ.o hp HX.o Ac).symm,lT _ _ _⟩
          . have Ab:(pi==0)=false:=by rw [Ab];exact Zy hz
            have HZ:=Hd hz;clear hz
            by_cases Aa:dD x=true
            . go_wp2_with (first | (go_at_call 174;refine(pC x _).mono ?_;rintro e w' ⟨rfl,rfl⟩) | (go_at_call 179;refine(lZ x _).mono ?_;rintro e w' ⟨rfl,rfl⟩))
              go_roundw
              case rel=>exact⟨q,(nL HR.o hp HX.o (fun h=>absurd h HZ.o) Aa).1,rfl,(nL HR.o hp HX.o (fun h=>absurd h HZ.o) Aa).2⟩
              case measure=>simp;have:=rJ hp HX.o;omega
            . have Aa:dD x=false:=by simpa using Aa
              go_wp2_with (first | (go_at_call 174;refine(pC x _).mono ?_;rintro e w' ⟨rfl,rfl⟩) | (go_at_call 179;refine(lZ x _).mono ?_;rintro e w' ⟨rfl,rfl⟩))
              go_ret
              exact⟨aF (tA hp HX.o Aa).symm,lT _ _ _⟩
        . have Ad:∀ ty,(Instr.next (.pointer (some ⟨w.heap.size,0,none⟩)) true ty).run Tryz.prog (w.iter s pos)=_:=fun ty=>run_next_end w s pos ty hp
          go_wp2_with fail
          go_ret
          exact⟨aF (aAt HR.o h0 Ae (by omega)).symm,lT _ _ _⟩
end
section
open Go.RowKit
theorem iG(s:ByteArray) (w:World) (hs:s.size<=9223372036854775807):
 Calls Tryz.prog 137 #[.string s] w fun e w'=>e=.returned (.bool (aX s.data.toList))/\Below w.heap.size w w':=by
 by_cases h1:eT fU s.data.toList=true
 . have HE:=Hd (show(!mF s.data.toList)=aX s.data.toList by simp [aX,h1])
   go_enter Tryz.func137,Tryz.ntmps137
   go_wp2_with fail
   refine(yL _ fU (.inl ⟨rfl,rfl⟩) s _ hs).mono ?_;rintro e w' ⟨rfl,hb⟩;have HB:=Hd hb;clear hb
   go_wp2_with fail
   refine(aRg s _).mono ?_;rintro e w' ⟨rfl,rfl⟩
   go_wp2_with fail
   go_ret
   exact⟨aF HE.o,HB.o⟩
 . have h1:eT fU s.data.toList=false:=by simpa using h1
   have HE:=Hd (show false=aX s.data.toList by simp [aX,h1])
   go_enter Tryz.func137,Tryz.ntmps137
   go_wp2_with fail
   refine(yL _ fU (.inl ⟨rfl,rfl⟩) s _ hs).mono ?_;rintro e w' ⟨rfl,hb⟩;have HB:=Hd hb;clear hb
   go_wp2_with fail
   go_ret
   exact⟨aF HE.o,HB.o⟩
theorem sA(s:ByteArray) (w:World) (hs:s.size<=9223372036854775807):
 Calls Tryz.prog 159 #[.string s] w fun e w'=>e=.returned (.bool (dY s.data.toList))/\Below w.heap.size w w':=by
 have HE:=Hd (show eT iP s.data.toList=dY s.data.toList from rfl)
 go_enter Tryz.func159,Tryz.ntmps159
 go_wp2_with fail
 refine(yL _ iP (.inr ⟨rfl,rfl⟩) s _ hs).mono ?_;rintro e w' ⟨rfl,hb⟩;have HB:=Hd hb;clear hb
 go_wp2_with fail
 go_ret
 exact⟨aF HE.o,HB.o⟩
def pR(a b x:Int):Bool:=decide (a<=x/\x<=b)
theorem sH(x a b:Int) (w:World):Calls Tryz.prog 130 #[.int .u8 x,.int .u8 a,.int .u8 b] w fun e w'=>e=.returned (.bool (pR a b x))/\w=w':=by
 by_cases h1:a<=x
 all_goals
  go_enter Tryz.func130,Tryz.ntmps130
  go_wp2
  go_ret
  exact⟨aF (by rw [Zm];simp [pR,h1] <;> omega),rfl⟩
theorem uS(x:Int) (w:World):Calls Tryz.prog 130 #[.int .u8 x,.int .u8 97,.int .u8 122] w fun e w'=>e=.returned (.bool (fU x))/\w=w':=sH x 97 122 w
theorem yM(x:Int) (w:World):Calls Tryz.prog 130 #[.int .u8 x,.int .u8 65,.int .u8 90] w fun e w'=>e=.returned (.bool (iP x))/\w=w':=sH x 65 90 w
theorem uT(x:Int) (w:World):Calls Tryz.prog 130 #[.int .u8 x,.int .u8 48,.int .u8 57] w fun e w'=>e=.returned (.bool (fM x))/\w=w':=sH x 48 57 w
theorem tB{s:ByteArray}{k:Nat}(H:∀ j (h:j<s.size),j<k->dD ((s[j]'h).toNat:Int)=true) (Aa:k<s.size) (hx:dD ((s[k]'Aa).toNat:Int)=true):
 ∀ j (h:j<s.size),j<k+1->dD ((s[j]'h).toNat:Int)=true:=fun j h hj=>by
 rcases Nat.lt_or_ge j k with h1 | h1
 . exact H j h h1
 . obtain rfl:j=k:=by omega
   exact hx
theorem xS(a b:Int) (s:ByteArray) (w:World) (hs:s.size<=9223372036854775807):
 Calls Tryz.prog 83 #[.string s,.int .u8 a,.int .u8 b] w fun e w'=>e=.returned (.bool (eT (pR a b) s.data.toList))/\w=w':=by
 by_cases h1:s.size<1
 . go_enter Tryz.func83,Tryz.ntmps83
   go_wp2_with fail
   go_ret
   exact⟨aF (tO (.inl h1)).symm,rfl⟩
 . by_cases h2:12<s.size
   . go_enter Tryz.func83,Tryz.ntmps83
     go_wp2_with fail
     go_ret
     exact⟨aF (tO (.inr h2)).symm,rfl⟩
   . have Aj:decide ((s.size:Int)<1)=false:=Zy (by omega);have Ai:decide ((12:Int)<(s.size:Int))=false:=Zy (by omega);have h0:0<s.size:=by omega
     have Ag:s.size<=12:=by omega
     clear h1 h2
     by_cases hf:pR a b ((s[0]'h0).toNat:Int)=true
     . have HF:=Hd hf
       go_enter Tryz.func83,Tryz.ntmps83
       go_wp2_with fail
       refine(sH _ a b _).mono ?_;rintro e w' ⟨rfl,rfl⟩
       go_wp2_with fail
       clear Aj Ai hf
       go_loop [7] (fun i=>∃ k:Nat,k<=s.size/\i=.int .i64 k/\∀ j (h:j<s.size),j<k->dD ((s[j]'h).toNat:Int)=true) (fun i=>s.size-(intOf i).toNat)
       case atStart=>exact⟨0,by omega,rfl,fun j _ hj=>absurd hj (by omega)⟩
       case round=>
        obtain⟨k,hk,rfl,hrel⟩:=hrel;have HR:=Hd hrel;clear hrel
        by_cases Aa:k<s.size
        . by_cases Ab:fU ((s[k]'Aa).toNat:Int)=true
          . go_wp2_with (go_at_call 130;refine(uS _ _).mono ?_;rintro e w' ⟨rfl,rfl⟩)
            go_round
            case rel=>exact⟨k+1,by omega,by go_num,tB HR.o Aa (by simp [dD,Ab])⟩
            case measure=>simp [intOf];omega
          . have Ab:fU ((s[k]'Aa).toNat:Int)=false:=by simpa using Ab
            by_cases Ac:iP ((s[k]'Aa).toNat:Int)=true
            . go_wp2_with (first | (go_at_call 130;(with_reducible refine(uS _ _).mono ?_);rintro e w' ⟨rfl,rfl⟩) | (go_at_call 130;(with_reducible refine(yM _ _).mono ?_);rintro e w' ⟨rfl,rfl⟩))
              go_round
              case rel=>exact⟨k+1,by omega,by go_num,tB HR.o Aa (by simp [dD,Ac])⟩
              case measure=>simp [intOf];omega
            . have Ac:iP ((s[k]'Aa).toNat:Int)=false:=by simpa using Ac
              by_cases Ad:fM ((s[k]'Aa).toNat:Int)=true
              . go_wp2_with (first | (go_at_call 130;(with_reducible refine(uS _ _).mono ?_);rintro e w' ⟨rfl,rfl⟩) | (go_at_call 130;(with_reducible refine(yM _ _).mono ?_);rintro e w' ⟨rfl,rfl⟩) | (go_at_call 130;(with_reducible refine(uT _ _).mono ?_);rintro e w' ⟨rfl,rfl⟩))
                go_round
                case rel=>exact⟨k+1,by omega,by go_num,tB HR.o Aa (by simp [dD,Ad])⟩
                case measure=>simp [intOf];omega
              . have Ad:fM ((s[k]'Aa).toNat:Int)=false:=by simpa using Ad
                have HN:=Hd (show dD ((s[k]'Aa).toNat:Int)=decide (((s[k]'Aa).toNat:Int)=95) by simp [dD,Ab,Ac,Ad])
                go_wp2_with (first | (go_at_call 130;(with_reducible refine(uS _ _).mono ?_);rintro e w' ⟨rfl,rfl⟩) | (go_at_call 130;(with_reducible refine(yM _ _).mono ?_);rintro e w' ⟨rfl,rfl⟩) | (go_at_call 130;(with_reducible refine(uT _ _).mono ?_);rintro e w' ⟨rfl,rfl⟩))
                . have Af:(((s[k]'Aa).toNat:Int) != 95)=true:=by assumption
                  have Ah:dD ((s[k]'Aa).toNat:Int)=false:=by
                   rw [HN.o];exact Zy (by simpa using Af)
                  go_ret
                  exact⟨aF (uF Aa Ah).symm,rfl⟩
                . have Af:(((s[k]'Aa).toNat:Int) != 95)=false:=by assumption
                  have Ae:dD ((s[k]'Aa).toNat:Int)=true:=by
                   rw [HN.o];exact Zx (by simpa using Af)
                  go_round
                  case rel=>exact⟨k+1,by omega,by go_num,tB HR.o Aa Ae⟩
                  case measure=>simp [intOf];omega
        . go_wp2_with fail
          go_ret
          exact⟨aF (aC3 h0 Ag HF.o fun j h=>HR.o j h (by omega)).symm,rfl⟩
     . have hf:pR a b ((s[0]'h0).toNat:Int)=false:=by simpa using hf
       go_enter Tryz.func83,Tryz.ntmps83
       go_wp2_with fail
       refine(sH _ a b _).mono ?_;rintro e w' ⟨rfl,rfl⟩
       go_wp2_with fail
       go_ret
       exact⟨aF (aAs h0 hf).symm,rfl⟩
theorem iY(s:ByteArray) (w:World) (hs:s.size<=9223372036854775807):
 Calls Tryz.prog 43 #[.string s] w fun e w'=>e=.returned (.bool (aX s.data.toList))/\Below w.heap.size w w':=by
 have HS:=Hd (show eT (pR 97 122) s.data.toList=eT fU s.data.toList from rfl)
 by_cases h1:eT fU s.data.toList=true
 . have HE:=Hd (show(!mF s.data.toList)=aX s.data.toList by simp [aX,h1])
   go_enter Tryz.func43,Tryz.ntmps43
   go_wp2_with fail
   refine(xS 97 122 s _ hs).mono ?_;rw [HS.o];rintro e w' ⟨rfl,rfl⟩
   go_wp2_with fail
   refine(aOu s _).mono ?_;rintro e w' ⟨rfl,hb⟩;have HB:=Hd hb;clear hb
   go_wp2_with fail
   go_ret
   exact⟨aF HE.o,HB.o⟩
 . have h1:eT fU s.data.toList=false:=by simpa using h1
   have HE:=Hd (show false=aX s.data.toList by simp [aX,h1])
   go_enter Tryz.func43,Tryz.ntmps43
   go_wp2_with fail
   refine(xS 97 122 s _ hs).mono ?_;rw [HS.o];rintro e w' ⟨rfl,rfl⟩
   go_wp2_with fail
   go_ret
   exact⟨aF HE.o,Yg _ _⟩
theorem rR(s:ByteArray) (w:World) (hs:s.size<=9223372036854775807):
 Calls Tryz.prog 44 #[.string s] w fun e w'=>e=.returned (.bool (dY s.data.toList))/\w=w':=by
 have HS:=Hd (show eT (pR 65 90) s.data.toList=dY s.data.toList from rfl)
 go_enter Tryz.func44,Tryz.ntmps44
 go_wp2_with fail
 refine(xS 65 90 s _ hs).mono ?_;rw [HS.o];rintro e w' ⟨rfl,rfl⟩
 go_wp2_with fail
 go_ret
 exact⟨rfl,rfl⟩
section
variable {s:ByteArray}
theorem uG(h:s.size<1\/3<s.size):gP s.data.toList=false:=by
 have:¬ (1<=s.data.toList.length/\s.data.toList.length<=3):=by rw [<- Zl];omega
 simp only [gP,Zy this,Bool.false_and]
theorem aB1(h:0<s.size) (hp:((s[0]'h).toNat:Int)=48):gP s.data.toList=false:=by
 obtain⟨F,e⟩:=uE h;have Aa:s[0]'h=48:=UInt8.toNat_inj.1 (by simpa using (by omega:(s[0]'h).toNat=48));rw [e]
 simp [gP,Aa]
theorem yN{k:Nat}(h:k<s.size) (hp:fM ((s[k]'h).toNat:Int)=false):gP s.data.toList=false:=by
 have hm:s[k]'h∈s.data.toList:=by rw [<- pD s k h];exact Zg _
 cases hn:gP s.data.toList with
 | false=>rfl
 | true=>
  simp only [gP,Ys,Zf] at hn;rw [hn.2 _ hm] at hp
  cases hp
theorem aEb(h1:0<s.size) (h2:s.size<=3) (hp:¬ ((s[0]'h1).toNat:Int)=48) (ha:∀ k (h:k<s.size),fM ((s[k]'h).toNat:Int)=true):gP s.data.toList=true:=by
 have hz:=Zl s
 have Ab:s.data.toList.all (fun c=>fM (c.toNat:Int))=true:=by
  rw [Zf];intro c hc;obtain⟨k,hk,e⟩:=Zi hc;rw [<- e,pD s k (by omega)];exact ha k (by omega)
 have Aa:decide (1<=s.data.toList.length/\s.data.toList.length<=3)=true:=Zx (by omega);obtain⟨F,e⟩:=uE h1;have Ac:¬ s[0]'h1=48:=fun e=>hp (by rw [e];rfl);unfold gP;rw [Ab,Aa,e]
 simp [Ac]
end
theorem aAd{x:Int}(h:128<=x):fM x=false:=by
 simp [fM];omega
def pG(s:ByteArray) (pos:Nat):Prop:=∀ k (h:k<s.size),k<pos->fM ((s[k]'h).toNat:Int)=true
theorem aAe{s:ByteArray}:pG s 0:=fun k h hk=>absurd hk (by omega)
theorem aAf{s:ByteArray}{k:Nat}(H:pG s k) (Aa:k<s.size) (hx:fM ((s[k]'Aa).toNat:Int)=true):pG s (k+1):=fun j h hj=>by
 rcases Nat.lt_or_ge j k with h1 | h1
 . exact H j h h1
 . obtain rfl:j=k:=by omega
   exact hx
theorem aAg{s:ByteArray}{pos q:Nat}{x:Int}(H:pG s pos) (hp:pos<s.size) (hx:(x=((s[pos]'hp).toNat:Int)/\q=pos+1)\/(128<=x/\128<=(s[pos]'hp).toNat/\pos<q))
 (h2:fM x=true):q<=s.size/\pG s q:=by
 rcases hx with⟨rfl,rfl⟩|⟨h,_,_⟩
 . exact⟨by omega,aAf H hp h2⟩
 . rw [aAd h] at h2
   cases h2
theorem aHj{s:ByteArray}{pos q:Nat}{x:Int}(hp:pos<s.size) (hx:(x=((s[pos]'hp).toNat:Int)/\q=pos+1)\/(128<=x/\128<=(s[pos]'hp).toNat/\pos<q)) (h2:fM x=false):gP s.data.toList=false:=by
 rcases hx with⟨rfl,rfl⟩|⟨_,h,_⟩
 . exact yN hp h2
 . exact yN hp (aAd (by omega))
theorem aL1(s:ByteArray) (w:World) (hs:s.size<=9223372036854775807):
 Calls Tryz.prog 182 #[.string s] w fun e w'=>e=.returned (.bool (gP s.data.toList))/\Below w.heap.size w w':=by
 by_cases h1:s.size<1
 . go_enter Tryz.func182,Tryz.ntmps182
   go_wp2_with fail
   go_ret
   exact⟨aF (uG (.inl h1)).symm,Yg _ _⟩
 . by_cases h2:3<s.size
   . go_enter Tryz.func182,Tryz.ntmps182
     go_wp2_with fail
     go_ret
     exact⟨aF (uG (.inr h2)).symm,Yg _ _⟩
   . have Ae:decide ((s.size:Int)<1)=false:=Zy (by omega);have Ac:decide ((3:Int)<(s.size:Int))=false:=Zy (by omega);have h0:0<s.size:=by omega
     have h3:s.size<=3:=by omega
     clear h1 h2
     by_cases hf:((s[0]'h0).toNat:Int)=48
     . have HF:=Hd hf;have Ab:(((s[0]'h0).toNat:Int)==48)=true:=by simpa using hf
       clear hf
       go_enter Tryz.func182,Tryz.ntmps182
       go_wp2_with fail
       go_ret
       exact⟨aF (aB1 h0 HF.o).symm,Yg _ _⟩
     . have HF:=Hd hf;have Ab:(((s[0]'h0).toNat:Int)==48)=false:=by simpa using hf
       clear hf
       go_enter Tryz.func182,Tryz.ntmps182
       go_wp2_with fail
       clear Ae Ac Ab
       go_loopw [4] (fun _ wr=>∃ pos:Nat,pos<=s.size/\wr=w.iter s pos/\pG s pos) (fun _ wr=>s.size-wr.iterPos w.heap.size)
       case atStart=>exact⟨0,by omega,rfl,aAe⟩
       case round=>
        obtain⟨pos,Af,rfl,hrel⟩:=hrel;have HR:=Hd hrel;clear hrel
        by_cases hp:pos<s.size
        . obtain⟨x,q,Ad,hx⟩:=xR (P:=Tryz.prog) w s pos hp;have HX:=Hd hx;clear hx
          by_cases Aa:fM x=true
          . go_wp2_with (go_at_call 183;refine(xQ x _).mono ?_;rintro e w' ⟨rfl,rfl⟩)
            go_roundw
            case rel=>exact⟨q,(aAg HR.o hp HX.o Aa).1,rfl,(aAg HR.o hp HX.o Aa).2⟩
            case measure=>simp;have:=rJ hp HX.o;omega
          . have Aa:fM x=false:=by simpa using Aa
            go_wp2_with (go_at_call 183;refine(xQ x _).mono ?_;rintro e w' ⟨rfl,rfl⟩)
            go_ret
            exact⟨aF (aHj hp HX.o Aa).symm,lT _ _ _⟩
        . have Ad:∀ ty,(Instr.next (.pointer (some ⟨w.heap.size,0,none⟩)) true ty).run Tryz.prog (w.iter s pos)=_:=fun ty=>run_next_end w s pos ty hp
          go_wp2_with fail
          go_ret
          exact⟨aF (aEb h0 h3 HF.o fun k h=>HR.o k h (by omega)).symm,lT _ _ _⟩
end
section
open Go.RowKit Go.Sort
theorem aHk(w:World) (x y:Ex) (A A':Option Addr) (ca Aa:Nat) (B B':Option Addr) (cb Ab:Nat) (w1:World) (h:(w.alloc (.cells (aE x A ca B cb) 35)).alloc (.cells (aE y A' Aa B' Ab) 35)=w1) (hr:aJ w x A B) (Ac:aJ w y A' B'):
 Below w.heap.size w w1/\w.heap.size+1<w1.heap.size/\aJ w1 x A B/\aJ w1 y A' B'/\(∀ w',Below w1.heap.size w1 w'->∀ j,w'.cell? ⟨w.heap.size,j,none⟩=(aE x A ca B cb)[j]?)/\∀ w',Below w1.heap.size w1 w'->∀ j,w'.cell? ⟨w.heap.size+1,j,none⟩=(aE y A' Aa B' Ab)[j]?:=by
 subst h;refine⟨((Yg _ _).alloc (Yh _) _).alloc (by simp) _,by simp,(hr.alloc _).alloc _,(Ac.alloc _).alloc _,fun w' hb j=>?_,fun w' hb j=>?_⟩
 . rw [hb.cell (p:=⟨w.heap.size,j,none⟩) (by simp;omega),Yj _ _ _ (by simp),Zo]
 . rw [hb.cell (p:=⟨w.heap.size+1,j,none⟩) (by simp)];have:=Zo (w.alloc (.cells (aE x A ca B cb) 35)) (aE y A' Aa B' Ab) 35 j;rwa [World.size_alloc] at this
end
end Go.Proofs.YtegjgiofmpolnaaGreat
