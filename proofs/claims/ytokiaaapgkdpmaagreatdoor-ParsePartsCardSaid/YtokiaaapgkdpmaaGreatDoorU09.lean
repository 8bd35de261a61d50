/- Parts of the proof: LxG, LxI, LxJ, LxH. Conditions: each theorem's own. -/
import Derived.ScopeJumps
import Derived.WalkMore
import Derived.Test.YtokiaaapgkdpmaaGreatDoorU08
namespace Go.Proofs.YtokiaaapgkdpmaaGreatDoor
set_option linter.unusedVariables false
set_option linter.unusedSimpArgs false
set_option maxRecDepth 100000
set_option maxHeartbeats 40000000
section
open Go.RowKit Go.Sort
theorem cut_line{l a b:List UInt8}{f:Bool}(hc:(10:UInt8)∉a) (hf:f=false→l=a) (ht:f=true→l=a++10::b):lineL l=a:=by
 have ha:∀ c∈a,(fun c:UInt8=>c != 10) c=true:=fun c h=>by
  have:c≠10:=fun e=>hc (e ▸ h)
  simpa using this
 cases f with
 | false=>exact tw_eq ha (.inl (hf rfl))
 | true=>exact tw_eq ha (.inr ⟨10,b,ht rfl,by decide⟩)
theorem has_space(c:UInt8):decide (0≤Lib.indexByte [9,10,13,32] c)=spaceB c:=by
 by_cases h:0≤Lib.indexByte [9,10,13,32] c
 · rw [decide_eq_true h];obtain⟨k,_,h2,_,h4⟩:=index_some h;have hm:c∈([9,10,13,32]:List UInt8):=by rw [h4];simp
   simp at hm
   rcases hm with rfl | rfl | rfl | rfl <;> rfl
 · rw [decide_eq_false h];have hn:=index_none (by omega:Lib.indexByte [9,10,13,32] c<0)
   simp at hn
   simp [spaceB,hn]
theorem ext_one_of{s:ByteArray}(h0:0<s.size):s.extract 0 1=⟨#[s[0]'h0]⟩:=by
 obtain⟨F,hl⟩:=head_at h0;exact eq_ofL (l:=[s[0]'h0]) (by rw [ext_list,hl];rfl)
theorem lxBlank(s:ByteArray) (w:World) (hs:s.size≤281474976710656):
 Calls Tryz.prog 39 #[.string s] w fun e w'=>e=.returned (.int .i64 (blankN s.data.toList:Nat))∧Below w.heap.size w w':=by
 have HC:=Hd (libPrefix s ⟨#[45,45]⟩);rw [show((⟨#[45,45]⟩:ByteArray).data.toList)=[45,45] from rfl] at HC
 cases hp:([45,45]:List UInt8).isPrefixOf s.data.toList with
 | true=>
  have HE:Hid (blankN s.data.toList=(lineL s.data.toList).length):=Hd (by unfold blankN;rw [if_pos hp]);rw [hp] at HC;clear hp;rw [HE.out]
  go_enter Tryz.func39,Tryz.ntmps39
  go_wp2_with fail
  refine(HC.out _).mono ?_;rintro e w1 ⟨rfl,rfl⟩
  go_wp2_with fail
  refine(strCut s 10 _ (by omega)).mono ?_;rintro e w2 ⟨a,b,f,rfl,hb,hc,hf,ht⟩;have hq:=Hd (cut_line hc hf ht);have HB:=Hd hb;clear hb hc hf ht
  go_wp2_with fail
  go_ret
  exact⟨ret_int (by rw [hq.out,Lib.size_eq]),HB.out⟩
 | false=>
  rw [hp] at HC
  by_cases h0:0<s.size
  · have hx:=ext_one_of h0;obtain⟨F,hl⟩:=head_at h0;have HE:Hid (blankN s.data.toList=if spaceB (s[0]'h0)=true then 1 else 0):=Hd (by unfold blankN;rw [if_neg (by rw [hp];simp),hl]);have HS:=Hd (libHas ⟨#[9,10,13,32]⟩ (s[0]'h0));rw [show((⟨#[9,10,13,32]⟩:ByteArray).data.toList)=[9,10,13,32] from rfl,has_space] at HS;have hne:(s.toList==[])=false:=by rw [Lib.toList_data,hl];rfl
    have h01:1≤s.size:=h0;clear hp hl;rw [HE.out]
    cases hb:spaceB (s[0]'h0) with
    | true=>
     rw [hb] at HS
     go_enter Tryz.func39,Tryz.ntmps39
     go_wp2_with fail
     refine(HC.out _).mono ?_;rintro e w1 ⟨rfl,rfl⟩
     go_wp2_with fail
     refine(HS.out _).mono ?_;rintro e w1 ⟨rfl,rfl⟩
     go_wp2_with fail
     go_ret
     exact⟨rfl,Below.refl _ _⟩
    | false=>
     rw [hb] at HS
     go_enter Tryz.func39,Tryz.ntmps39
     go_wp2_with fail
     refine(HC.out _).mono ?_;rintro e w1 ⟨rfl,rfl⟩
     go_wp2_with fail
     refine(HS.out _).mono ?_;rintro e w1 ⟨rfl,rfl⟩
     go_wp2_with fail
     go_ret
     exact⟨rfl,Below.refl _ _⟩
  · have hl:s.data.toList=[]:=List.eq_nil_of_length_eq_zero (by rw [← Lib.size_eq];omega);have HE:Hid (blankN s.data.toList=0):=Hd (by rw [hl];rfl);have hne:(s.toList==[])=true:=by rw [Lib.toList_data,hl];rfl
    clear hp hl;rw [HE.out]
    go_enter Tryz.func39,Tryz.ntmps39
    go_wp2_with fail
    refine(HC.out _).mono ?_;rintro e w1 ⟨rfl,rfl⟩
    go_wp2_with fail
    go_ret
    exact⟨rfl,Below.refl _ _⟩
theorem ext_rest(s:ByteArray) (p:Nat):(s.extract p s.size).data.toList=s.data.toList.drop p:=by
 rw [Lib.extract_data,List.take_of_length_le (by rw [Lib.size_eq];simp)]
def flatT(ts:List Tk):List Value:=ts.flatMap fun t=>(tkA t).toList
theorem flatT_len:∀ ts:List Tk,(flatT ts).length=ts.length*4
 | []=>rfl
 | t::ts=>by
  have ih:=flatT_len ts;simp only [flatT,List.flatMap_cons,List.length_append,List.length_cons] at ih ⊢;rw [ih]
  simp [tkA];omega
theorem flatT_app(a b:List Tk):flatT (a++b)=flatT a++flatT b:=by simp [flatT]
theorem flatT_one(t:Tk):flatT [t]=(tkA t).toList:=by simp [flatT]
theorem flatT_at:∀ (ts:List Tk) (i j:Nat),i<ts.length→j<4→(flatT ts)[i*4+j]?=(tkA (ts[i]?.getD default))[j]?
 | t::ts,0,j,_,hj=>by
  have hz:j<(tkA t).toList.length:=by simpa [tkA] using hj
  simp only [flatT,List.flatMap_cons,Nat.zero_mul,Nat.zero_add];rw [List.getElem?_append_left hz]
  simp
 | t::ts,i+1,j,hi,hj=>by
  have ih:=flatT_at ts i j (by simpa using hi) hj;have hz:(tkA t).toList.length=4:=by simp [tkA]
  simp only [flatT,List.flatMap_cons];rw [List.getElem?_append_right (by rw [hz];omega),hz,show(i+1)*4+j-4=i*4+j by omega]
  simpa [flatT] using ih
theorem flatT_ones(ts:List Tk):∀ u∈flatT ts,u.oneCell'=true:=by
 intro u hu;simp only [flatT,List.mem_flatMap] at hu;obtain⟨t,_,hu⟩:=hu
 simp [tkA] at hu
 rcases hu with rfl | rfl | rfl | rfl <;> rfl
def RdK(w:World) (A:Option Addr) (n:Nat) (ts:List Tk):Prop:=
 ts.length=n∧n≤9223372036854775807 ∧
 (0<n→∃ b off,A=some ⟨b,off,none⟩∧b<w.heap.size∧∀ i,i<n →
  w.cell? ⟨b,off+i*4,none⟩=some (.int .i64 (ts[i]?.getD default).k)∧w.cell? ⟨b,off+i*4+1,none⟩=some (.string (ofL (ts[i]?.getD default).s)) ∧
  w.cell? ⟨b,off+i*4+2,none⟩=some (.int .i64 (ts[i]?.getD default).n)∧w.cell? ⟨b,off+i*4+3,none⟩=some (.int .i64 ((ts[i]?.getD default).a:Int)))
section
variable {w w':World}{A:Option Addr}{n:Nat}{ts:List Tk}
theorem RdK.nil_(w:World):RdK w none 0 []:=⟨rfl,by omega,by omega⟩
theorem RdK.below(h:RdK w A n ts) (hb:Below w.heap.size w w'):RdK w' A n ts:=
 ⟨h.1,h.2.1,fun hn=>by
  obtain⟨b,off,e,hlt,hc⟩:=h.2.2 hn;refine⟨b,off,e,Nat.lt_of_lt_of_le hlt hb.size,fun i hi=>?_⟩;obtain⟨h0,h1,h2,h3⟩:=hc i hi;exact⟨(hb.cell hlt).trans h0,(hb.cell hlt).trans h1,(hb.cell hlt).trans h2,(hb.cell hlt).trans h3⟩⟩
theorem RdK.of_own{base:Nat}{e:TypeId}{v:Value}(h:w.ownsRow base e 4 v n (flatT ts)) (hm:n≤9223372036854775807):
 ∃ A c,v=.slice A n c∧RdK w A n ts:=by
 have hl:ts.length=n:=by
  have:=h.1;rw [flatT_len] at this;omega
 rcases h.2 with⟨rfl,rfl⟩|⟨g,cap,cur,rfl,hg,hh,hnc,hcm,hcs,ht⟩
 · obtain rfl:ts=[]:=List.eq_nil_of_length_eq_zero hl;exact⟨none,0,rfl,RdK.nil_ _⟩
 · refine⟨_,cap,rfl,hl,hm,fun hn=>⟨g,0,rfl,(Array.getElem?_eq_some_iff.1 hh).1,fun i hi=>?_⟩⟩
   have hc:∀ j,j<4→w.cell? ⟨g,0+i*4+j,none⟩=(tkA (ts[i]?.getD default))[j]?:=fun j hj=>by
    rw [Nat.zero_add,h.cellAt (i*4+j) (by omega),flatT_at ts i j (by omega) hj]
   exact⟨hc 0 (by omega),hc 1 (by omega),hc 2 (by omega),hc 3 (by omega)⟩
theorem own_below{base B:Nat}{e:TypeId}{size:Nat}{v:Value}{xs:List Value}(h:w.ownsRow base e size v n xs) (hb:Below B w w') (hB:w.heap.size≤B):w'.ownsRow base e size v n xs:=by
 refine⟨h.1,?_⟩;rcases h.2 with h | ⟨g,cap,cur,rfl,hg,hh,hr⟩
 · exact .inl h
 · have hlt:=(Array.getElem?_eq_some_iff.1 hh).1;exact .inr ⟨g,cap,cur,rfl,hg,(hb.block g (by omega)).trans hh,hr⟩
end
end
section
open Go.RowKit Go.Sort
theorem rxIn(x a b:Int) (w:World):Calls Tryz.prog 42 #[.int .u8 x,.int .u8 a,.int .u8 b] w fun e w'=>e=.returned (.bool (inR a b x))∧w=w':=by
 by_cases h1:a≤x
 all_goals
  go_enter Tryz.func42,Tryz.ntmps42
  go_wp2
  go_ret
  exact⟨ret_bool (by rw [Bool.eq_iff_iff];simp [inR,h1] <;> omega),rfl⟩
theorem rxInS(x:Int) (w:World):Calls Tryz.prog 42 #[.int .u8 x,.int .u8 97,.int .u8 122] w fun e w'=>e=.returned (.bool (smallB x))∧w=w':=rxIn x 97 122 w
theorem rxInG(x:Int) (w:World):Calls Tryz.prog 42 #[.int .u8 x,.int .u8 65,.int .u8 90] w fun e w'=>e=.returned (.bool (greatB x))∧w=w':=rxIn x 65 90 w
theorem rxInD(x:Int) (w:World):Calls Tryz.prog 42 #[.int .u8 x,.int .u8 48,.int .u8 57] w fun e w'=>e=.returned (.bool (digitB x))∧w=w':=rxIn x 48 57 w
theorem rxInner(x:Int) (w:World):Calls Tryz.prog 44 #[.int .u8 x] w fun e w'=>e=.returned (.bool (nameC x))∧w=w':=by
 by_cases h1:smallB x=true
 · go_enter Tryz.func44,Tryz.ntmps44
   go_wp2_with fail
   refine(rxInS x _).mono ?_;rintro e w' ⟨rfl,rfl⟩
   go_wp2_with fail
   go_ret
   exact⟨ret_bool (by simp [nameC,h1]),rfl⟩
 · have h1:smallB x=false:=by simpa using h1
   by_cases h2:greatB x=true
   · go_enter Tryz.func44,Tryz.ntmps44
     go_wp2_with fail
     refine(rxInS x _).mono ?_;rintro e w' ⟨rfl,rfl⟩
     go_wp2_with fail
     refine(rxInG x _).mono ?_;rintro e w' ⟨rfl,rfl⟩
     go_wp2_with fail
     go_ret
     exact⟨ret_bool (by simp [nameC,h2]),rfl⟩
   · have h2:greatB x=false:=by simpa using h2
     by_cases h3:digitB x=true
     all_goals
      go_enter Tryz.func44,Tryz.ntmps44
      go_wp2_with fail
      refine(rxInS x _).mono ?_;rintro e w' ⟨rfl,rfl⟩
      go_wp2_with fail
      refine(rxInG x _).mono ?_;rintro e w' ⟨rfl,rfl⟩
      go_wp2_with fail
      refine(rxInD x _).mono ?_;rintro e w' ⟨rfl,rfl⟩
      go_wp2_with fail
      go_ret
      exact⟨ret_bool (by rw [Bool.eq_iff_iff];simp [nameC,h1,h2,h3]),rfl⟩
def SkipTo(s:ByteArray) (p q:Nat):Prop:=p≤q∧q≤s.size∧lexL p (s.data.toList.drop p)=lexL q (s.data.toList.drop q)
section
variable {s:ByteArray}{p q k:Nat}
theorem SkipTo.start(h:p≤s.size):SkipTo s p p:=⟨Nat.le_refl _,h,rfl⟩
theorem drop_at(h:k<s.size):s.data.toList.drop k=s[k]'h::s.data.toList.drop (k+1):=by
 have hl:k<s.data.toList.length:=by rw [← Lib.size_eq];exact h
 rw [List.drop_eq_getElem_cons hl,at_list s k h]
theorem blank_space(h:k<s.size) (hc:spaceB (s[k]'h)=true):blankN (s.data.toList.drop k)=1:=by
 rw [drop_at h];unfold blankN
 have hn:¬ ([45,45]:List UInt8).isPrefixOf (s[k]'h::s.data.toList.drop (k+1))=true:=by
  intro e
  have:s[k]'h=45:=by
   simp only [List.isPrefixOf_cons_cons,Bool.and_eq_true,beq_iff_eq] at e;exact e.1.symm
  rw [this] at hc
  revert hc
  decide
 rw [if_neg hn]
 simp [hc]
theorem blank_no(h:k<s.size) (hc:spaceB (s[k]'h)=false) (hr:¬ s[k]'h=45∨s.size≤k+1∨∃ h2:k+1<s.size,¬ s[k+1]'h2=45):blankN (s.data.toList.drop k)=0:=by
 rw [drop_at h];unfold blankN
 have hn:¬ ([45,45]:List UInt8).isPrefixOf (s[k]'h::s.data.toList.drop (k+1))=true:=by
  intro e;simp only [List.isPrefixOf_cons_cons,Bool.and_eq_true,beq_iff_eq] at e;rcases hr with hr | hr | ⟨h2,hr⟩
  · exact hr e.1.symm
  · have:s.data.toList.drop (k+1)=[]:=List.drop_of_length_le (by rw [← Lib.size_eq];exact hr);rw [this] at e;exact absurd e.2 (by simp)
  · rw [drop_at h2] at e;simp only [List.isPrefixOf_cons_cons,Bool.and_eq_true,beq_iff_eq] at e;exact hr e.2.1.symm
 rw [if_neg hn]
 simp [hc]
theorem SkipTo.space(H:SkipTo s p k) (h:k<s.size) (hc:spaceB (s[k]'h)=true):SkipTo s p (k+1):=by
 have hb:=blank_space h hc;refine⟨by have:=H.1;omega,by omega,?_⟩;rw [H.2.2,lex_blank (by rw [hb];decide),hb,List.drop_drop]
def NoFeed(s:ByteArray) (k j:Nat):Prop:=k≤j∧j≤s.size∧∀ i (h:i<s.size),k≤i→i<j→¬ s[i]'h=10
theorem NoFeed.on{j:Nat}(H:NoFeed s k j) (h:j<s.size) (hc:¬ s[j]'h=10):NoFeed s k (j+1):=by
 refine⟨by have:=H.1;omega,by omega,fun i hi h1 h2=>?_⟩;rcases Nat.lt_or_ge i j with h3 | h3
 · exact H.2.2 i hi h1 h3
 · obtain rfl:i=j:=by omega
   exact hc
theorem NoFeed.line{j:Nat}(H:NoFeed s k j) (he:j=s.size∨∃ h:j<s.size,s[j]'h=10):(lineL (s.data.toList.drop k)).length=j-k:=by
 have hjz:j≤s.data.toList.length:=by rw [← Lib.size_eq];exact H.2.1
 have h1:lineL (s.data.toList.drop k)=(s.data.toList.drop k).take (j-k):=by
  refine tw_eq (fun c hc=>?_) ?_
  · obtain⟨i,hi,e⟩:=List.getElem_of_mem hc;rw [List.length_take,List.length_drop] at hi;have hik:k+i<s.size:=by rw [Lib.size_eq];omega
    rw [List.getElem_take,List.getElem_drop,at_list s (k+i) hik] at e;have:=H.2.2 (k+i) hik (by omega) (by omega);rw [e] at this
    simpa using this
  · rcases he with rfl | ⟨h,hc⟩
    · exact .inl (List.take_of_length_le (by rw [List.length_drop,← Lib.size_eq];omega)).symm
    · refine .inr ⟨10,s.data.toList.drop (j+1),?_,by decide⟩
      have h2:(s.data.toList.drop k).drop (j-k)=10::s.data.toList.drop (j+1):=by
       rw [List.drop_drop,show k+(j-k)=j by have:=H.1;omega,drop_at h,hc]
      rw [← h2,List.take_append_drop]
 rw [h1,List.length_take,List.length_drop];omega
theorem SkipTo.line{j:Nat}(H:SkipTo s p k) (N:NoFeed s k j) (h1:k+1<s.size) (ha:s[k]'(by omega)=45) (hb:s[k+1]'h1=45) (he:j=s.size∨∃ h:j<s.size,s[j]'h=10):SkipTo s p j:=by
 have hl:=N.line he;have h0:k<s.size:=by omega
 have hp:([45,45]:List UInt8).isPrefixOf (s.data.toList.drop k)=true:=by
  rw [drop_at h0,drop_at h1,ha,hb]
  simp
 have hbl:blankN (s.data.toList.drop k)=j-k:=by
  unfold blankN;rw [if_pos hp,hl]
 have hkj:k<j:=by
  have h2:(lineL (s.data.toList.drop k)).length≠0:=by
   rw [drop_at h0,ha]
   simp [lineL]
  omega
 refine⟨by have:=H.1;omega,N.2.1,?_⟩;rw [H.2.2,lex_blank (by rw [hbl];omega),hbl,List.drop_drop,show k+(j-k)=j by omega]
end
def SkipAns(s:ByteArray) (p:Nat) (e:Ending):Prop:=∃ q:Nat,e=.returned (.int .i64 (q:Int))∧SkipTo s p q∧(q<s.size→blankN (s.data.toList.drop q)=0)
theorem byte_no{c:UInt8}(n:Int) (m:UInt8) (hm:(m.toNat:Int)=n) (h:(c==m)=false):(((c.toNat:Int)==n)=false):=by
 have h2:¬ c=m:=by simpa using h
 rw [← hm];have h3:¬ (c.toNat:Int)=m.toNat:=fun e=>h2 (UInt8.toNat_inj.1 (by omega))
 simpa using h3
theorem rxSkip(s:ByteArray) (p:Nat) (w:World) (hs:s.size≤9223372036854775806) (hp:p≤s.size):
 Calls Tryz.prog 21 #[.string s,.int .i64 (p:Int)] w fun e w'=>SkipAns s p e∧w=w':=by
 go_enter Tryz.func21,Tryz.ntmps21
 go_wp2_with fail
 go_loop [1] (fun i=>∃ k:Nat,i=.int .i64 k∧SkipTo s p k) (fun i=>s.size-(intOf i).toNat)
 case atStart=>exact⟨p,rfl,SkipTo.start hp⟩
 case round=>
  obtain⟨k,rfl,hrel⟩:=hrel;have HR:=Hd hrel;have hk:=hrel.2.1;clear hrel
  by_cases hlt:k<s.size
  · by_cases hsp:spaceB (s[k]'hlt)=true
    · have HN:=Hd (HR.out.space hlt hsp)
      have hv:((s[k]'hlt).toNat:Int)=9∨((s[k]'hlt).toNat:Int)=10∨((s[k]'hlt).toNat:Int)=13∨((s[k]'hlt).toNat:Int)=32:=by
       simp [spaceB] at hsp
       rcases hsp with((h | h) | h) | h <;> simp [h]
      clear hsp;rcases hv with hv | hv | hv | hv
      all_goals
       go_wp2_with fail
       go_round
       case rel=>exact⟨k+1,by go_num,HN.out⟩
       case measure=>simp [intOf];omega
    · have hsp:spaceB (s[k]'hlt)=false:=Bool.eq_false_iff.2 hsp;have HNB:=Hd (fun h=>blank_no hlt hsp h);simp only [spaceB,Bool.or_eq_false_iff] at hsp;obtain⟨⟨⟨h9,h10⟩,h13⟩,h32⟩:=hsp;have g9:(((s[k]'hlt).toNat:Int)==9)=false:=byte_no 9 9 rfl h9;have g10:(((s[k]'hlt).toNat:Int)==10)=false:=byte_no 10 10 rfl h10;have g13:(((s[k]'hlt).toNat:Int)==13)=false:=byte_no 13 13 rfl h13;have g32:(((s[k]'hlt).toNat:Int)==32)=false:=byte_no 32 32 rfl h32;clear h9 h10 h13 h32
      by_cases h45:s[k]'hlt=45
      · have hx:((s[k]'hlt).toNat:Int)=45:=by rw [h45];rfl
        by_cases h1:k+1<s.size
        · by_cases g45:s[k+1]'h1=45
          · have hy:((s[k+1]'h1).toNat:Int)=45:=by rw [g45];rfl
            have HX:=Hd h45;have HY:=Hd g45;clear h45 g45 g9 g10 g13 g32
            go_wp2_with fail
            clear hx hy
            go_loop [1] (fun i=>∃ j:Nat,i=.int .i64 j∧NoFeed s k j) (fun i=>s.size-(intOf i).toNat)
            case atStart=>exact⟨k,rfl,Nat.le_refl _,hk,fun i h a b=>absurd b (by omega)⟩
            case round=>
             obtain⟨j,rfl,hj⟩:=hrel;have HJ:=Hd hj;have hjs:=hj.2.1;have hkj:=hj.1;clear hj
             by_cases hjl:j<s.size
             · by_cases hf:s[j]'hjl=10
               · have HN:=Hd (HR.out.line HJ.out h1 HX.out HY.out (.inr ⟨hjl,hf⟩));have hv:((s[j]'hjl).toNat:Int)=10:=by rw [hf];rfl
                 have HJK:=Hd (show k<j by
                  have:=HX.out;rcases Nat.lt_or_ge k j with h | h
                  · exact h
                  · obtain rfl:k=j:=by omega
                    rw [hf] at this;exact absurd this (by decide))
                 clear hf
                 go_wp2_with fail
                 have hkj2:=HJK.out
                 go_round
                 case rel=>exact⟨j,rfl,HN.out⟩
                 case measure=>simp [intOf];omega
               · have HN:=Hd (HJ.out.on hjl hf)
                 have hv:(((s[j]'hjl).toNat:Int) != 10)=true:=by
                  have:=byte_no 10 10 rfl (show(s[j]'hjl==10)=false by simpa using hf)
                  simpa using this
                 clear hf
                 go_wp2_with fail
                 go_round
                 case rel=>exact⟨j+1,by go_num,HN.out⟩
                 case measure=>simp [intOf];omega
             · obtain rfl:j=s.size:=by omega
               have HN:=Hd (HR.out.line HJ.out h1 HX.out HY.out (.inl rfl))
               go_wp2_with fail
               go_round
               case rel=>exact⟨s.size,rfl,HN.out⟩
               case measure=>simp [intOf];omega
          · have HE:=Hd (HNB.out (.inr (.inr ⟨h1,g45⟩)))
            have hv:(((s[k+1]'h1).toNat:Int) != 45)=true:=by
             have:=byte_no 45 45 rfl (show(s[k+1]'h1==45)=false by simpa using g45)
             simpa using this
            clear h45 g45 g9 g10 g13 g32
            go_wp2_with fail
            go_ret
            exact⟨⟨k,rfl,HR.out,fun _=>HE.out⟩,rfl⟩
        · have HE:=Hd (HNB.out (.inr (.inl (by omega))));clear h45 g9 g10 g13 g32;have h1:s.size≤k+1:=by omega
          go_wp2_with fail
          go_ret
          exact⟨⟨k,rfl,HR.out,fun _=>HE.out⟩,rfl⟩
      · have HE:=Hd (HNB.out (.inl h45))
        have hv:(((s[k]'hlt).toNat:Int) != 45)=true:=by
         have:=byte_no 45 45 rfl (show(s[k]'hlt==45)=false by simpa using h45)
         simpa using this
        clear h45
        go_wp2_with fail
        go_ret
        exact⟨⟨k,rfl,HR.out,fun _=>HE.out⟩,rfl⟩
  · obtain rfl:k=s.size:=by omega
    go_wp2_with fail
    go_ret
    exact⟨⟨_,rfl,HR.out,fun h=>absurd h (by omega)⟩,rfl⟩
end
section
open Go.RowKit Go.Sort
theorem tw_ge{p:UInt8→Bool}:∀ (l:List UInt8) (m:Nat),m≤l.length→(∀ c∈l.take m,p c=true)→∃ r,l.takeWhile p=l.take m++r
 | l,0,_,_=>⟨l.takeWhile p,by simp⟩
 | [],m+1,h,_=>by simp at h
 | c::l,m+1,h,ha=>by
  have hc:=ha c (by simp);obtain⟨r,hr⟩:=tw_ge l m (by simpa using h) (fun c hc=>ha c (by simp [hc]));exact⟨r,by simp [hc,hr]⟩
def pieceL(s:ByteArray) (p k:Nat):List UInt8:=(s.data.toList.drop p).take (k-p)
section
variable {s:ByteArray}{p k v:Nat}
theorem piece_len(hp:p≤k) (hk:k≤s.size):(pieceL s p k).length=k-p:=by
 rw [pieceL,List.length_take,List.length_drop,← Lib.size_eq];omega
theorem piece_on(hp:p≤k) (h:k<s.size):pieceL s p (k+1)=pieceL s p k++[s[k]'h]:=by
 unfold pieceL;have e:k+1-p=(k-p)+1:=by omega
 have hl:k-p<(s.data.toList.drop p).length:=by rw [List.length_drop,← Lib.size_eq];omega
 rw [e,List.take_succ_eq_append_getElem hl,List.getElem_drop];have:p+(k-p)=k:=by omega
 simp only [this];rw [at_list s k h]
theorem piece_ext(hp:p≤k) (hk:k≤s.size):s.extract p k=ofL (pieceL s p k):=eq_ofL (Lib.extract_data s p k)
def PieceAll(f:UInt8→Bool) (s:ByteArray) (p k:Nat):Prop:=p≤k∧k≤s.size∧∀ c∈pieceL s p k,f c=true
theorem PieceAll.start{f:UInt8→Bool}(h:p≤s.size):PieceAll f s p p:=⟨Nat.le_refl _,h,fun c hc=>by simp [pieceL] at hc⟩
theorem PieceAll.on{f:UInt8→Bool}(H:PieceAll f s p k) (h:k<s.size) (hc:f (s[k]'h)=true):PieceAll f s p (k+1):=by
 refine⟨by have:=H.1;omega,by omega,fun c hm=>?_⟩;rw [piece_on H.1 h] at hm;rcases List.mem_append.1 hm with hm | hm
 · exact H.2.2 c hm
 · simp at hm;rw [hm];exact hc
theorem PieceAll.stop{f:UInt8→Bool}(H:PieceAll f s p k) (he:k=s.size∨∃ h:k<s.size,f (s[k]'h)=false):(s.data.toList.drop p).takeWhile f=pieceL s p k:=by
 refine tw_eq H.2.2 ?_;rcases he with rfl | ⟨h,hc⟩
 · exact .inl (List.take_of_length_le (by rw [List.length_drop,← Lib.size_eq];omega)).symm
 · refine .inr ⟨s[k]'h,s.data.toList.drop (k+1),?_,hc⟩
   have h2:(s.data.toList.drop p).drop (k-p)=s[k]'h::s.data.toList.drop (k+1):=by
    rw [List.drop_drop,show p+(k-p)=k by have:=H.1;omega,drop_at h]
   rw [← h2];exact(List.take_append_drop _ _).symm
theorem PieceAll.more{f:UInt8→Bool}(H:PieceAll f s p k):∃ r,(s.data.toList.drop p).takeWhile f=pieceL s p k++r:=
 tw_ge _ _ (by rw [List.length_drop,← Lib.size_eq];have:=H.2.1;omega) H.2.2
def NumTo(s:ByteArray) (p k v:Nat):Prop:=PieceAll (fun c=>digitB (c.toNat:Int)) s p k∧v=decV (pieceL s p k)∧v≤9223372036854775807∧(p+1<k→∀ h:p<s.size,¬ s[p]'h=48)
theorem NumTo.start(h:p≤s.size):NumTo s p p 0:=⟨PieceAll.start h,by simp [pieceL,decV],by omega,fun h=>absurd h (by omega)⟩
theorem NumTo.on(H:NumTo s p k v) (h:k<s.size) (hd:digitB ((s[k]'h).toNat:Int)=true) (hv:v*10+((s[k]'h).toNat-48)≤9223372036854775807) (h0:p<k→∀ h:p<s.size,¬ s[p]'h=48):
 NumTo s p (k+1) (v*10+((s[k]'h).toNat-48)):=
 ⟨H.1.on h hd,by rw [piece_on H.1.1 h,decV_snoc,← H.2.1],hv,fun hp=>h0 (by omega)⟩
theorem head_drop(h:p<s.size):(s.data.toList.drop p).head?=some (s[p]'h):=by rw [drop_at h];rfl
theorem NumTo.yes(H:NumTo s p k v) (hp:p<k) (he:k=s.size∨∃ h:k<s.size,digitB ((s[k]'h).toNat:Int)=false):
 numT (s.data.toList.drop p)=some (⟨3,pieceL s p k,(v:Int),0⟩,k-p):=by
 have hd:digL (s.data.toList.drop p)=pieceL s p k:=H.1.stop he;have hps:p<s.size:=by have:=H.1.2.1;omega
 have hl:=piece_len H.1.1 H.1.2.1;unfold numT;rw [hd,head_drop hps,hl,if_neg,H.2.1];rintro (⟨h1,h2⟩ | h1)
 · exact H.2.2.2 (by omega) hps (Option.some.inj h2)
 · rw [← H.2.1] at h1;have:=H.2.2.1;omega
theorem NumTo.big(H:NumTo s p k v) (h:k<s.size) (hd:digitB ((s[k]'h).toNat:Int)=true) (hv:9223372036854775807<v*10+((s[k]'h).toNat-48)):numT (s.data.toList.drop p)=none:=by
 obtain⟨r,hr⟩:=(H.1.on h hd).more;have hd2:digL (s.data.toList.drop p)=pieceL s p (k+1)++r:=hr;unfold numT;rw [if_pos];refine .inr ?_;rw [hd2];have h1:=decV_app (pieceL s p (k+1)) r;rw [piece_on H.1.1 h,decV_snoc,← H.2.1] at h1;rw [piece_on H.1.1 h];omega
theorem NumTo.nought(H:NumTo s p k v) (hp:p<k) (h:k<s.size) (hd:digitB ((s[k]'h).toNat:Int)=true) (h48:s[p]'(by omega)=48):numT (s.data.toList.drop p)=none:=by
 obtain⟨r,hr⟩:=(H.1.on h hd).more;have hd2:digL (s.data.toList.drop p)=pieceL s p (k+1)++r:=hr;have hl:=piece_len (s:=s) (p:=p) (k:=k+1) (by omega) (by omega);unfold numT;rw [if_pos];refine .inl ⟨?_,?_⟩
 · rw [hd2,List.length_append,hl];omega
 · rw [head_drop (by omega),h48]
end
def numAns(s:ByteArray) (p:Nat):Value:=match numT (s.data.toList.drop p) with
 | some (t,_)=>.tuple #[tkV { t with a:=p },.bool true]
 | none=>.tuple #[tkV tk0,.bool false]
theorem rxNumber(s:ByteArray) (p:Nat) (w:World) (hs:s.size≤9223372036854775806) (hp:p<s.size) (hdp:digitB ((s[p]'hp).toNat:Int)=true):
 Calls Tryz.prog 43 #[.string s,.int .i64 (p:Int)] w fun e w'=>e=.returned (numAns s p)∧Below w.heap.size w w':=by
 have HG0:Hid (Row4 40 (w.alloc (.cells #[.int .i64 0,.string ⟨#[]⟩,.int .i64 0,.int .i64 0] 40)) w.heap.size tk0):=Hd (Row4.new _ w tk0);have HB0:Hid (Below w.heap.size w (w.alloc (.cells #[.int .i64 0,.string ⟨#[]⟩,.int .i64 0,.int .i64 0] 40))):=Hd ((Below.refl _ _).alloc (Nat.le_refl _) _);have HD:=Hd hdp;clear hdp
 go_enter Tryz.func43,Tryz.ntmps43
 go_upto_region 1 with(fail)
 generalize (w.alloc (.cells #[.int .i64 0,.string ⟨#[]⟩,.int .i64 0,.int .i64 0] 40))=w1 at *
 go_wp2_with fail
 go_loop [6,7] (fun n i=>∃ k v:Nat,i=.int .i64 k∧n=.int .u64 v∧NumTo s p k v) (fun _ i=>s.size-(intOf i).toNat)
 case atStart=>exact⟨p,0,rfl,rfl,NumTo.start (by omega)⟩
 case round=>
  obtain⟨k,v,rfl,rfl,hrel⟩:=hrel;have HR:=Hd hrel;have hpk:=hrel.1.1;have hk:=hrel.1.2.1;have hvm:=hrel.2.2.1;clear hrel
  by_cases hlt:k<s.size
  · by_cases hd:digitB ((s[k]'hlt).toNat:Int)=true
    · have HD2:=Hd (digit_nat hd)
      by_cases hbig:9223372036854775807<v*10+((s[k]'hlt).toNat-48)
      · have HE:Hid (numAns s p=.tuple #[tkV tk0,.bool false]):=Hd (by unfold numAns;rw [HR.out.big hlt hd hbig]);have hg:decide ((9223372036854775807-(((s[k]'hlt).toNat:Int)-48)) / 10<(v:Int))=true:=decide_eq_true (by have:=HD2.out;omega);have hd2:=HD2.out;clear hbig
        go_wp2_with (first | (go_at_call 42;refine(rxInD _ _).mono ?_;rintro e w' ⟨rfl,rfl⟩) | (refine wpList_store_row rfl _ _ _ rfl w.heap.size _ rfl rfl _ _ HG0.out tr_info rfl (by simp [Value.oneCell']) ?_))
        rw [HE.out];exact bodyPost_ret (res_tr2 (p:=4) (u:=5) rfl _ _ w.heap.size tk0 rfl (HG0.out.set tk0)) rfl ⟨rfl,below_setRow HB0.out (Nat.le_refl _) _⟩
      · have hg:decide ((9223372036854775807-(((s[k]'hlt).toNat:Int)-48)) / 10<(v:Int))=false:=decide_eq_false (by have:=HD2.out;omega);have HBG:=Hd (Nat.not_lt.1 hbig);clear hbig
        by_cases hpk2:p<k
        · have hdp:decide ((p:Int)<(k:Int))=true:=decide_eq_true (by omega)
          by_cases h48:s[p]'hp=48
          · have HE:Hid (numAns s p=.tuple #[tkV tk0,.bool false]):=Hd (by unfold numAns;rw [HR.out.nought hpk2 hlt hd h48]);have hx:(((s[p]'hp).toNat:Int)==48)=true:=by rw [h48];rfl
            have hd2:=HD2.out;clear h48
            go_wp2_with (first | (go_at_call 42;refine(rxInD _ _).mono ?_;rintro e w' ⟨rfl,rfl⟩) | (refine wpList_store_row rfl _ _ _ rfl w.heap.size _ rfl rfl _ _ HG0.out tr_info rfl (by simp [Value.oneCell']) ?_))
            rw [HE.out];exact bodyPost_ret (res_tr2 (p:=4) (u:=5) rfl _ _ w.heap.size tk0 rfl (HG0.out.set tk0)) rfl ⟨rfl,below_setRow HB0.out (Nat.le_refl _) _⟩
          · have HN:=Hd (HR.out.on hlt hd HBG.out (fun _ _=>h48));have hx:(((s[p]'hp).toNat:Int)==48)=false:=byte_no 48 48 rfl (by simpa using h48);have hd2:=HD2.out;clear h48
            go_wp2_with (go_at_call 42;refine(rxInD _ _).mono ?_;rintro e w' ⟨rfl,rfl⟩)
            have hd2:=HD2.out;have hbg:=HBG.out
            have he1:IntKind.u64.wrap (IntKind.u64.wrap ((v:Int)*10)+(((s[k]'hlt).toNat:Int)-48))=((v*10+((s[k]'hlt).toNat-48):Nat):Int):=by
             rw [IntWalk.u64_in ((v:Int)*10) (by omega),IntWalk.u64_in _ (by omega)];omega
            rw [he1]
            go_round
            case rel=>exact⟨k+1,v*10+((s[k]'hlt).toNat-48),by go_num,rfl,HN.out⟩
            case measure=>simp [intOf];omega
        · have hdp:decide ((p:Int)<(k:Int))=false:=decide_eq_false (by omega);have HN:=Hd (HR.out.on hlt hd HBG.out (fun h=>absurd h hpk2));have hd2:=HD2.out
          go_wp2_with (go_at_call 42;refine(rxInD _ _).mono ?_;rintro e w' ⟨rfl,rfl⟩)
          have hd2:=HD2.out;have hbg:=HBG.out
          have he1:IntKind.u64.wrap (IntKind.u64.wrap ((v:Int)*10)+(((s[k]'hlt).toNat:Int)-48))=((v*10+((s[k]'hlt).toNat-48):Nat):Int):=by
           rw [IntWalk.u64_in ((v:Int)*10) (by omega),IntWalk.u64_in _ (by omega)];omega
          rw [he1]
          go_round
          case rel=>exact⟨k+1,v*10+((s[k]'hlt).toNat-48),by go_num,rfl,HN.out⟩
          case measure=>simp [intOf];omega
    · have hd:digitB ((s[k]'hlt).toNat:Int)=false:=Bool.eq_false_iff.2 hd
      have hpk2:p<k:=by
       rcases Nat.lt_or_ge p k with h | h
       · exact h
       · obtain rfl:k=p:=by omega
         have:=HD.out;rw [hd] at this;cases this
      have HE:Hid (numAns s p=.tuple #[tkV ⟨3,pieceL s p k,(v:Int),p⟩,.bool true]):=Hd (by unfold numAns;rw [HR.out.yes hpk2 (.inr ⟨hlt,hd⟩)]);have hpx:=piece_ext hpk hk
      go_wp2_with (first | (go_at_call 42;refine(rxInD _ _).mono ?_;rintro e w' ⟨rfl,rfl⟩) | (refine wpList_store_row rfl _ _ _ rfl w.heap.size _ rfl rfl _ _ HG0.out tr_info rfl (by simp [Value.oneCell']) ?_))
      rw [HE.out];exact bodyPost_ret (res_tr2 (p:=4) (u:=5) rfl _ _ w.heap.size ⟨3,pieceL s p k,(v:Int),p⟩ rfl (HG0.out.set ⟨3,pieceL s p k,(v:Int),p⟩)) rfl ⟨rfl,below_setRow HB0.out (Nat.le_refl _) _⟩
  · have hpk2:p<k:=by omega
    have HE:Hid (numAns s p=.tuple #[tkV ⟨3,pieceL s p k,(v:Int),p⟩,.bool true]):=Hd (by unfold numAns;rw [HR.out.yes hpk2 (.inl (by omega))]);have hpx:=piece_ext hpk hk
    go_wp2_with (first | (go_at_call 42;refine(rxInD _ _).mono ?_;rintro e w' ⟨rfl,rfl⟩) | (refine wpList_store_row rfl _ _ _ rfl w.heap.size _ rfl rfl _ _ HG0.out tr_info rfl (by simp [Value.oneCell']) ?_))
    rw [HE.out];exact bodyPost_ret (res_tr2 (p:=4) (u:=5) rfl _ _ w.heap.size ⟨3,pieceL s p k,(v:Int),p⟩ rfl (HG0.out.set ⟨3,pieceL s p k,(v:Int),p⟩)) rfl ⟨rfl,below_setRow HB0.out (Nat.le_refl _) _⟩
end
section
open Go.RowKit Go.Sort
theorem wp_scope_back{P:Program}{a:Act}{w:World}{Q:Exit→Act→World→Prop}{rest:Code}(l:Nat) (J:Act→World→Prop) (μ:Act→World→Nat) (h0:J a w)
 (pass:∀ a w,J a w→rest.wp P (Exit.jump l (fun a' w'=>J a' w'∧μ a' w' < μ a w) Q) a w):(Code.scope ((Code.label l).seq rest)).wp P Q a w:=by
 refine wp_scope_jumps l J μ (rest:=.seq .skip rest) (by simp [findLabel]) (wp_seq (wp_label ?_)) (fun a w h=>wp_seq (wp_skip (pass a w h)))
 show rest.wp P (Exit.jump l J Q) a w
 refine wp_mono (pass a w h0) fun e a w h=>?_
 cases e with
 | goto l'=>exact⟨h.1,h.2.1⟩
 | normal=>exact h
 | exit id=>exact h
 | ret=>exact h
 | panic ch=>exact h
 | outgrown=>exact h
theorem jump_to{l:Nat}{J:Act→World→Prop}{Q:Exit→Act→World→Prop}{a:Act}{w:World}(h:J a w):Exit.jump l J Q (.goto l) a w:=⟨rfl,h⟩
theorem lxAll_long(s:ByteArray) (most:Int) (w:World) (hs:s.size≤9223372036854775807) (hm:most<(s.size:Int)):
 Calls Tryz.prog 19 #[.string s,.int .i64 most] w fun e w'=>e=.returned (.tuple #[.slice none 0 0,.int .i64 most,.int .i64 3])∧w=w':=by
 go_enter Tryz.func19,Tryz.ntmps19
 go_wp2_with fail
 go_step3
 go_wp2_with fail
 rw [Exit.noGoto_ret];exact bodyPost_ret (v:=.tuple #[.slice none 0 0,.int .i64 most,.int .i64 3]) (by simp [results,Tryz.results19,go_sem]) rfl ⟨rfl,rfl⟩
def AllAns(s:ByteArray) (e:Ending) (w':World):Prop:=
 (∃ p,(lexL 0 s.data.toList).2=some p∧e=.returned (.tuple #[.slice none 0 0,.int .i64 (p:Int),.int .i64 2])) ∨
 ((lexL 0 s.data.toList).2=none∧∃ A c,e=.returned (.tuple #[.slice A ((lexL 0 s.data.toList).1.length+1) c,.int .i64 (s.size:Int),.int .i64 0])∧RdK w' A ((lexL 0 s.data.toList).1.length+1) ((lexL 0 s.data.toList).1++[⟨6,[],0,s.size⟩]))
theorem AllAns.yes{s:ByteArray}{acc:List Tk}{A:Option Addr}{c q:Nat}{w':World}(h:lexL 0 s.data.toList=(acc,none)) (hq:q=s.size) (hR:RdK w' A (acc.length+1) (acc++[⟨6,[],0,q⟩])):
 AllAns s (.returned (.tuple #[.slice A (acc.length+1) c,.int .i64 (q:Int),.int .i64 0])) w':=by
 subst hq;refine .inr ?_;rw [h];exact⟨rfl,A,c,rfl,hR⟩
theorem AllAns.no{s:ByteArray}{p:Nat}{w':World}(h:(lexL 0 s.data.toList).2=some p):AllAns s (.returned (.tuple #[.slice none 0 0,.int .i64 (p:Int),.int .i64 2])) w':=.inl ⟨p,h,rfl⟩
theorem infoTk:(Tryz.prog.info? 41).map (fun i=>(i.zero,i.size,i.bytes))=some (some (tkV tk0),4,40):=by kernel_rfl
def AllRel(T:TypeId) (s:ByteArray) (w:World) (v:Value) (p:Nat) (acc:List Tk) (w':World):Prop:=
 p≤s.size∧acc.length≤p∧w'.ownsRow w.heap.size T 4 v acc.length (flatT acc) ∧
 lexL 0 s.data.toList=(acc++(lexL p (s.data.toList.drop p)).1,(lexL p (s.data.toList.drop p)).2)∧Below w.heap.size w w'
section
variable {T:TypeId}{s:ByteArray}{w w' w2:World}{v:Value}{p:Nat}{acc:List Tk}
theorem AllRel.start:AllRel T s w (.slice none 0 0) 0 [] w:=⟨Nat.zero_le _,Nat.le_refl _,World.ownsRow_nil _ _ _ _,by simp,Below.refl _ _⟩
theorem AllRel.on(h:AllRel T s w v p acc w') (hb:Below w'.heap.size w' w2):AllRel T s w v p acc w2:=
 ⟨h.1,h.2.1,own_below h.2.2.1 hb (Nat.le_refl _),h.2.2.2.1,h.2.2.2.2.trans (hb.mono h.2.2.2.2.size)⟩
theorem AllRel.len(h:AllRel T s w v p acc w'):(s.data.toList.drop p).length=s.size-p:=by rw [List.length_drop,Lib.size_eq]
theorem AllRel.blank(h:AllRel T s w v p acc w') (hb:0<blankN (s.data.toList.drop p)):AllRel T s w v (p+blankN (s.data.toList.drop p)) acc w':=by
 have h1:=blank_le (s.data.toList.drop p);have h2:=h.len;refine⟨by have:=h.1;omega,by have:=h.2.1;omega,h.2.2.1,?_,h.2.2.2.2⟩;have h3:=h.2.2.2.1;rw [lex_blank hb,List.drop_drop] at h3;exact h3
theorem AllRel.bad(h:AllRel T s w v p acc w') (hp:p<s.size) (hb:blankN (s.data.toList.drop p)=0) (ht:tokL (s.data.toList.drop p)=none):(lexL 0 s.data.toList).2=some p:=by
 rw [h.2.2.2.1,lex_bad (fun e=>by have:=h.len;rw [e] at this;simp at this;omega) hb ht]
theorem AllRel.tok(h:AllRel T s w v p acc w'){t:Tk}{z:Nat}(hb:blankN (s.data.toList.drop p)=0) (ht:tokL (s.data.toList.drop p)=some (t,z)){v':Value}{w2:World}
 (ho:w2.ownsRow w.heap.size T 4 v' (acc.length+1) (flatT acc++(tkA { t with a:=p }).toList)) (hw:Below w.heap.size w w2):AllRel T s w v' (p+z) (acc++[{ t with a:=p }]) w2:=by
 obtain⟨h1,h2,h3⟩:=tok_ok ht;have h4:=h.len;refine⟨by have:=h.1;omega,by have:=h.2.1;simp;omega,?_,?_,hw⟩
 · rw [flatT_app,flatT_one]
   simpa using ho
 · have h5:=h.2.2.2.1;rw [lex_tok hb ht,List.drop_drop] at h5;rw [h5]
   simp
theorem AllRel.all(h:AllRel T s w v s.size acc w'):lexL 0 s.data.toList=(acc,none):=by
 have h1:=h.2.2.2.1;have h2:s.data.toList.drop s.size=[]:=List.drop_of_length_le (by rw [← Lib.size_eq];omega);rw [h2,lex_nil] at h1
 simpa using h1
end
theorem cells_new(W:World) (o:Obj) (t:Tk) (T:TypeId):∀ j u,(tkA t).toList[j]?=some u→((W.alloc o).alloc (.cells (tkA t) T)).cell? ((⟨W.heap.size+1,0,none⟩:Addr).add j)=some u:=by
 intro j u hu;have e2:(⟨W.heap.size+1,0,none⟩:Addr).add j=⟨W.heap.size+1,j,none⟩:=by unfold Addr.add;split <;> simp_all
 have:=World.cell?_alloc_new (w:=W.alloc o) (tkA t) T j;rw [e2]
 simpa using this.trans (by simpa using hu)
theorem cells_new1(W:World) (t:Tk) (T:TypeId):∀ j u,(tkA t).toList[j]?=some u→(W.alloc (.cells (tkA t) T)).cell? ((⟨W.heap.size,0,none⟩:Addr).add j)=some u:=by
 intro j u hu;have e2:(⟨W.heap.size,0,none⟩:Addr).add j=⟨W.heap.size,j,none⟩:=by unfold Addr.add;split <;> simp_all
 have:=World.cell?_alloc_new (w:=W) (tkA t) T j;rw [e2]
 simpa using this.trans (by simpa using hu)
theorem lxAll(s:ByteArray) (most:Int) (w:World) (hs:s.size≤1099511627776) (hm:(s.size:Int)≤most) (hv:Vars w):
 Calls Tryz.prog 19 #[.string s,.int .i64 most] w fun e w'=>AllAns s e w'∧Below w.heap.size w w':=by
 obtain⟨i0,hi,hz0,hz1,hz2⟩:=info_parts infoTk;have HV:=Hd hv;have hg:decide (most<(s.size:Int))=false:=decide_eq_false (by omega);clear hv
 go_enter Tryz.func19,Tryz.ntmps19
 go_wp2_with fail
 go_step3
 go_wp2_with fail
 go_step3
 go_wp2_with fail
 clear hg hm
 go_loopw [7,8] (fun v i wr=>∃ (p:Nat) (acc:List Tk),i=.int .i64 p∧AllRel 41 s w v p acc wr) (fun _ i _=>s.size-(intOf i).toNat)
 case atStart=>exact⟨0,[],rfl,AllRel.start⟩
 case round=>
  obtain⟨p,acc,rfl,hrel⟩:=hrel;have HR0:=Hd hrel;clear hrel
  go_wp2_with fail
  refine wp_scope_back 0 (fun a' w'=>∃ (q:Nat) (acc:List Tk) (y4 y5 y6 y7 y9 y10 y11 y17 y18 y19 y20 y21 y22 y23 y24 y25 y26 y27 y28 y29 y30 y31 y32 y33 y34 y35 y36 y37 y38 y39 y40 y41 y42 y43 y44 y45 y46 y47 y48 y49 y50:Value),a'={ tmps:=List.toArray (.string s::.int .i64 most::undef::undef::y4::y5::y6::y7::.int .i64 (q:Int)::y9::y10::y11::.string s::.int .i64 (s.size:Int)::.int .i64 most::.bool false::undef::y17::y18::y19::y20::y21::y22::y23::y24::y25::y26::y27::y28::y29::y30::y31::y32::y33::y34::y35::y36::y37::y38::y39::y40::y41::y42::y43::y44::y45::y46::y47::y48::y49::y50::undef::undef::undef::undef::undef::undef::[]),defers:=[] }∧AllRel 41 s w y7 q acc w'∧s.size-q≤s.size-p) (fun a' _=>s.size-(intOf (a'.tmps.getD 8 undef)).toNat)
   ⟨p,acc,_,_,_,_,_,_,_,_,_,_,_,_,_,_,_,_,_,_,_,_,_,_,_,_,_,_,_,_,_,_,_,_,_,_,_,_,_,_,_,_,_,rfl,HR0.out,Nat.le_refl _⟩ ?_
  clear HR0;rintro a' wr ⟨q,acc,y4,y5,y6,y7,y9,y10,y11,y17,y18,y19,y20,y21,y22,y23,y24,y25,y26,y27,y28,y29,y30,y31,y32,y33,y34,y35,y36,y37,y38,y39,y40,y41,y42,y43,y44,y45,y46,y47,y48,y49,y50,rfl,hrel,hqp⟩;have HA:=Hd hrel;have hq:=hrel.1;have hB:=Hd hrel.2.2.2.2;have HV1:=Hd (HV.out.below hrel.2.2.2.2);have HL:=Hd (ext_rest s q);have hsz:(s.extract q s.size).size≤1099511627776:=by rw [Lib.size_eq,ext_rest,List.length_drop,← Lib.size_eq];omega
  have HBL:=Hd (lxBlank (s.extract q s.size));rw [ext_rest] at HBL;clear hrel
  by_cases hb:0<blankN (s.data.toList.drop q)
  · have HA2:=Hd (HA.out.blank hb);have HQ:=Hd (Nat.le_trans HA2.out.1 (Nat.le_refl _));have hq2:=HA2.out.1;generalize blankN (s.data.toList.drop q)=n at *
    go_wp2_with fail
    refine(HBL.out _ (by omega)).mono ?_;rintro e w2 ⟨rfl,hb2⟩;have HA3:=Hd (HA2.out.on hb2);clear hb2
    go_wp2_with fail
    rw [← Int.natCast_add]
    go_step3
    simp only [Exit.inBlock,Exit.then];refine jump_to ?_;refine⟨?_,?_⟩
    · refine⟨q+n,acc,?_⟩;refine⟨_,_,_,_,_,_,_,_,_,_,_,_,_,_,_,_,_,_,_,_,_,_,_,_,_,_,_,_,_,_,_,_,_,_,_,_,_,_,_,_,_,rfl,?_,?_⟩
      · exact HA3.out
      · omega
    · simp [intOf]
      omega
  · have hb0:blankN (s.data.toList.drop q)=0:=by omega
    rw [hb0] at HBL;have HB0:=Hd hb0;clear hb hb0
    by_cases hqs:q=s.size
    · have heq:((q:Int)==(s.size:Int))=true:=by simpa using (by omega:(q:Int)=s.size)
      have HE:=Hd (AllRel.all (hqs ▸ HA.out));have HQ:=Hd hqs;clear hqs
      go_wp2_with fail
      refine(HBL.out _ (by omega)).mono ?_;rintro e w2 ⟨rfl,hb2⟩;have HA3:=Hd (HA.out.on hb2);have hrow:=HA3.out.2.2.1;have hlen:=HA3.out.2.1;have hBz:=HA3.out.2.2.2.2.size;have HBW:=Hd HA3.out.2.2.2.2;clear hb2
      go_wp2_with fail
      simp only [Exit.jump,Exit.inBlock]
      go_wp2_with (at_builtin;go_must (refine wpList_append_own _ rfl _ _ 38 rfl w.heap.size 41 i0 (tkV tk0) 4 40 Tryz.underlying38 hi hz0 hz1 hz2 rfl (by decide) _ _ _ rfl (hrow.alloc _) ⟨w2.heap.size,0,none⟩ 1 1 (tkA ⟨6,[],0,q⟩).toList rfl rfl (cells_new1 _ _ _) (by rw [← flatT_one];exact flatT_ones _) (by unfold maxLen;omega) (by omega) (by simp;omega) ?_;intro v' w1 hown' hgrow _))
      rw [Exit.noGoto_ret];have hBE:=(HBW.out.alloc hBz (.cells (tkA ⟨6,[],0,q⟩) 41)).grown hgrow (by simp;omega) (fun j hj=>(hrow.lt j hj).1);obtain⟨A,c,rfl,hR⟩:=RdK.of_own (ts:=acc++[⟨6,[],0,q⟩]) (by rw [flatT_app,flatT_one];exact hown') (by omega);exact bodyPost_ret (v:=.tuple #[.slice A (acc.length+1) c,.int .i64 (q:Int),.int .i64 0]) (by simp [results,Tryz.results19,go_sem]) rfl ⟨AllAns.yes HE.out HQ.out hR,hBE⟩
    · have hne:((q:Int)==(s.size:Int))=false:=by simpa using (by omega:¬ (q:Int)=s.size)
      have hlt:q<s.size:=by omega
      have HF:=Hd (fun(w:World) (hv:Vars w)=>lxFirst (s.extract q s.size) w (by omega) hv (by rw [Lib.size_eq,ext_rest,List.length_drop,← Lib.size_eq];omega));rw [ext_rest] at HF;clear hqs
      cases ht:tokL (s.data.toList.drop q) with
      | none=>
       rw [ht] at HF;have HE:=Hd (HA.out.bad hlt HB0.out ht);simp only [tkR,tkV,tkA,tk0] at HF
       go_wp2_with fail
       refine(HBL.out _ (by omega)).mono ?_;rintro e w2 ⟨rfl,hb2⟩;have HA3:=Hd (HA.out.on hb2);have HV3:=Hd (HV1.out.below hb2);clear hb2
       go_wp2_with fail
       refine(HF.out _ HV3.out).mono ?_;rintro e w3 ⟨rfl,hb3⟩;have HA4:=Hd (HA3.out.on hb3);clear hb3 HV1 HV3;have HBW:=Hd HA4.out.2.2.2.2
       go_wp2_with fail
       simp only [Exit.jump,Exit.inBlock]
       go_wp2_with fail
       rw [Exit.noGoto_ret];exact bodyPost_ret (v:=.tuple #[.slice none 0 0,.int .i64 (q:Int),.int .i64 2]) (by simp [results,Tryz.results19,go_sem]) rfl ⟨AllAns.no HE.out,HBW.out.alloc HBW.out.size _⟩
      | some x=>
       obtain⟨t,z⟩:=x;rw [ht] at HF;have HT:=Hd ht;clear ht;simp only [tkR,tkV,tkA] at HF
       go_wp2_with fail
       refine(HBL.out _ (by omega)).mono ?_;rintro e w2 ⟨rfl,hb2⟩;have HA3:=Hd (HA.out.on hb2);have HV3:=Hd (HV1.out.below hb2);clear hb2
       go_wp2_with fail
       refine(HF.out _ HV3.out).mono ?_;rintro e w3 ⟨rfl,hb3⟩;have HA4:=Hd (HA3.out.on hb3);clear hb3 HV1 HV3;have hz0':((z:Int)==0)=false:=by have:=(tok_ok HT.out).1;simpa using (by omega:¬ (z:Int)=0)
       have hzq:q+z≤s.size:=by have:=(tok_ok HT.out).2.1;rw [List.length_drop,← Lib.size_eq] at this;omega
       have hrow:=HA4.out.2.2.1;have hlen:=HA4.out.2.1;have hBz:=HA4.out.2.2.2.2.size;have HBW:=Hd HA4.out.2.2.2.2
       go_upto_region 13 with(fail)
       go_wp2_with (at_builtin;go_must (refine wpList_append_own _ rfl _ _ 38 rfl w.heap.size 41 i0 (tkV tk0) 4 40 Tryz.underlying38 hi hz0 hz1 hz2 rfl (by decide) _ _ _ rfl ((hrow.alloc _).alloc _) ⟨w3.heap.size+1,0,none⟩ 1 1 (tkA { t with a:=q }).toList rfl rfl (cells_new _ _ _ _) (by rw [← flatT_one];exact flatT_ones _) (by unfold maxLen;omega) (by omega) (by simp;omega) ?_;intro v' w1 hown' hgrow _))
       have hBE:=Hd (((HBW.out.alloc hBz (.cells (tkA { t with a:=q }) 41)).alloc (by simp;omega) (.cells (tkA { t with a:=q }) 41)).grown hgrow (by simp;omega) (fun j hj=>(hrow.lt j hj).1));have HN:=Hd (HA4.out.tok HB0.out HT.out hown' hBE.out);have hzp:=(tok_ok HT.out).1;clear hown' hgrow hrow;simp only [Exit.jump]
       go_roundw
       case rel=>
        refine⟨_,_,_,_,_,_,_,_,_,_,_,_,_,_,_,_,_,_,_,_,_,_,_,_,_,_,_,_,_,_,_,_,_,_,_,_,_,_,_,_,_,_,?_,rfl⟩;exact⟨q+z,acc++[{ t with a:=q }],by go_num,HN.out⟩
       case measure=>simp [intOf];omega
end
end Go.Proofs.YtokiaaapgkdpmaaGreatDoor
