/- Parts of the proof: LxH, LxO. Conditions: each theorem's own. -/
import Derived.ScopeJumps
import Derived.WalkMore
import Derived.Test.YtokiaaapgkdpmaaGreatDoorV16
namespace Go.Proofs.YtokiaaapgkdpmaaGreatDoor
set_option linter.unusedVariables false
set_option linter.unusedSimpArgs false
set_option maxRecDepth 100000
set_option maxHeartbeats 40000000
section
open Go.RowKit Go.Sort
theorem wp_scope_back{P:Program}{a:Act}{w:World}{Q:Exit→Act→World→Prop}{rest:Code}(l:Nat) (J:Act→World→Prop) (μ:Act→World→Nat) (h0:J a w)
 (pass:∀ a w,J a w→rest.wp P (Exit.jump l (fun a' w'=>J a' w'∧μ a' w' < μ a w) Q) a w):(Code.scope ((Code.label l).seq rest)).wp P Q a w:=by
 refine wp_scope_jumps l J μ (rest:=.seq .skip rest) (by simp [findLabel]) (wp_seq (wp_label ?_)) (fun a w h=>wp_seq (wp_skip (pass a w h)))
 show rest.wp P (Exit.jump l J Q) a w
 refine wp_mono (pass a w h0) fun e a w h=>?_
 cases e with
 | goto l'=>exact⟨h.1,h.2.1⟩
 | normal=>exact h
 | exit id=>exact h
 | ret=>exact h
 | panic ch=>exact h
 | outgrown=>exact h
theorem jump_to{l:Nat}{J:Act→World→Prop}{Q:Exit→Act→World→Prop}{a:Act}{w:World}(h:J a w):Exit.jump l J Q (.goto l) a w:=⟨rfl,h⟩
theorem lxAll_long(s:ByteArray) (most:Int) (w:World) (hs:s.size≤9223372036854775807) (hm:most<(s.size:Int)):
 Calls Tryz.prog 19 #[.string s,.int .i64 most] w fun e w'=>e=.returned (.tuple #[.slice none 0 0,.int .i64 most,.int .i64 3])∧w=w':=by
 go_enter Tryz.func19,Tryz.ntmps19
 go_wp2_with fail
 go_step3
 go_wp2_with fail
 rw [Exit.noGoto_ret];exact bodyPost_ret (v:=.tuple #[.slice none 0 0,.int .i64 most,.int .i64 3]) (by simp [results,Tryz.results19,go_sem]) rfl ⟨rfl,rfl⟩
def AllAns(s:ByteArray) (e:Ending) (w':World):Prop:=
 (∃ p,(lexL 0 s.data.toList).2=some p∧e=.returned (.tuple #[.slice none 0 0,.int .i64 (p:Int),.int .i64 2])) ∨
 ((lexL 0 s.data.toList).2=none∧∃ A c,e=.returned (.tuple #[.slice A ((lexL 0 s.data.toList).1.length+1) c,.int .i64 (s.size:Int),.int .i64 0])∧RdK w' A ((lexL 0 s.data.toList).1.length+1) ((lexL 0 s.data.toList).1++[⟨6,[],0,s.size⟩]))
theorem AllAns.yes{s:ByteArray}{acc:List Tk}{A:Option Addr}{c q:Nat}{w':World}(h:lexL 0 s.data.toList=(acc,none)) (hq:q=s.size) (hR:RdK w' A (acc.length+1) (acc++[⟨6,[],0,q⟩])):
 AllAns s (.returned (.tuple #[.slice A (acc.length+1) c,.int .i64 (q:Int),.int .i64 0])) w':=by
 subst hq;refine .inr ?_;rw [h];exact⟨rfl,A,c,rfl,hR⟩
theorem AllAns.no{s:ByteArray}{p:Nat}{w':World}(h:(lexL 0 s.data.toList).2=some p):AllAns s (.returned (.tuple #[.slice none 0 0,.int .i64 (p:Int),.int .i64 2])) w':=.inl ⟨p,h,rfl⟩
theorem infoTk:(Tryz.prog.info? 41).map (fun i=>(i.zero,i.size,i.bytes))=some (some (tkV tk0),4,40):=by kernel_rfl
def AllRel(T:TypeId) (s:ByteArray) (w:World) (v:Value) (p:Nat) (acc:List Tk) (w':World):Prop:=
 p≤s.size∧acc.length≤p∧w'.ownsRow w.heap.size T 4 v acc.length (flatT acc) ∧
 lexL 0 s.data.toList=(acc++(lexL p (s.data.toList.drop p)).1,(lexL p (s.data.toList.drop p)).2)∧Below w.heap.size w w'
section
variable {T:TypeId}{s:ByteArray}{w w' w2:World}{v:Value}{p:Nat}{acc:List Tk}
theorem AllRel.start:AllRel T s w (.slice none 0 0) 0 [] w:=⟨Nat.zero_le _,Nat.le_refl _,World.ownsRow_nil _ _ _ _,by simp,Below.refl _ _⟩
theorem AllRel.on(h:AllRel T s w v p acc w') (hb:Below w'.heap.size w' w2):AllRel T s w v p acc w2:=
 ⟨h.1,h.2.1,own_below h.2.2.1 hb (Nat.le_refl _),h.2.2.2.1,h.2.2.2.2.trans (hb.mono h.2.2.2.2.size)⟩
theorem AllRel.len(h:AllRel T s w v p acc w'):(s.data.toList.drop p).length=s.size-p:=by rw [List.length_drop,Lib.size_eq]
theorem AllRel.blank(h:AllRel T s w v p acc w') (hb:0<blankN (s.data.toList.drop p)):AllRel T s w v (p+blankN (s.data.toList.drop p)) acc w':=by
 have h1:=blank_le (s.data.toList.drop p);have h2:=h.len;refine⟨by have:=h.1;omega,by have:=h.2.1;omega,h.2.2.1,?_,h.2.2.2.2⟩;have h3:=h.2.2.2.1;rw [lex_blank hb,List.drop_drop] at h3;exact h3
theorem AllRel.bad(h:AllRel T s w v p acc w') (hp:p<s.size) (hb:blankN (s.data.toList.drop p)=0) (ht:tokL (s.data.toList.drop p)=none):(lexL 0 s.data.toList).2=some p:=by
 rw [h.2.2.2.1,lex_bad (fun e=>by have:=h.len;rw [e] at this;simp at this;omega) hb ht]
theorem AllRel.tok(h:AllRel T s w v p acc w'){t:Tk}{z:Nat}(hb:blankN (s.data.toList.drop p)=0) (ht:tokL (s.data.toList.drop p)=some (t,z)){v':Value}{w2:World}
 (ho:w2.ownsRow w.heap.size T 4 v' (acc.length+1) (flatT acc++(tkA { t with a:=p }).toList)) (hw:Below w.heap.size w w2):AllRel T s w v' (p+z) (acc++[{ t with a:=p }]) w2:=by
 obtain⟨h1,h2,h3⟩:=tok_ok ht;have h4:=h.len;refine⟨by have:=h.1;omega,by have:=h.2.1;simp;omega,?_,?_,hw⟩
 · rw [flatT_app,flatT_one]
   simpa using ho
 · have h5:=h.2.2.2.1;rw [lex_tok hb ht,List.drop_drop] at h5;rw [h5]
   simp
theorem AllRel.all(h:AllRel T s w v s.size acc w'):lexL 0 s.data.toList=(acc,none):=by
 have h1:=h.2.2.2.1;have h2:s.data.toList.drop s.size=[]:=List.drop_of_length_le (by rw [← Lib.size_eq];omega);rw [h2,lex_nil] at h1
 simpa using h1
end
theorem cells_new(W:World) (o:Obj) (t:Tk) (T:TypeId):∀ j u,(tkA t).toList[j]?=some u→((W.alloc o).alloc (.cells (tkA t) T)).cell? ((⟨W.heap.size+1,0,none⟩:Addr).add j)=some u:=by
 intro j u hu;have e2:(⟨W.heap.size+1,0,none⟩:Addr).add j=⟨W.heap.size+1,j,none⟩:=by unfold Addr.add;split <;> simp_all
 have:=World.cell?_alloc_new (w:=W.alloc o) (tkA t) T j;rw [e2]
 simpa using this.trans (by simpa using hu)
theorem cells_new1(W:World) (t:Tk) (T:TypeId):∀ j u,(tkA t).toList[j]?=some u→(W.alloc (.cells (tkA t) T)).cell? ((⟨W.heap.size,0,none⟩:Addr).add j)=some u:=by
 intro j u hu;have e2:(⟨W.heap.size,0,none⟩:Addr).add j=⟨W.heap.size,j,none⟩:=by unfold Addr.add;split <;> simp_all
 have:=World.cell?_alloc_new (w:=W) (tkA t) T j;rw [e2]
 simpa using this.trans (by simpa using hu)
theorem lxAll(s:ByteArray) (most:Int) (w:World) (hs:s.size≤1099511627776) (hm:(s.size:Int)≤most) (hv:Vars w):
 Calls Tryz.prog 19 #[.string s,.int .i64 most] w fun e w'=>AllAns s e w'∧Below w.heap.size w w':=by
 obtain⟨i0,hi,hz0,hz1,hz2⟩:=info_parts infoTk;have HV:=Hd hv;have hg:decide (most<(s.size:Int))=false:=decide_eq_false (by omega);clear hv
 go_enter Tryz.func19,Tryz.ntmps19
 go_wp2_with fail
 go_step3
 go_wp2_with fail
 go_step3
 go_wp2_with fail
 clear hg hm
 go_loopw [7,8] (fun v i wr=>∃ (p:Nat) (acc:List Tk),i=.int .i64 p∧AllRel 41 s w v p acc wr) (fun _ i _=>s.size-(intOf i).toNat)
 case atStart=>exact⟨0,[],rfl,AllRel.start⟩
 case round=>
  obtain⟨p,acc,rfl,hrel⟩:=hrel;have HR0:=Hd hrel;clear hrel
  go_wp2_with fail
  refine wp_scope_back 0 (fun a' w'=>∃ (q:Nat) (acc:List Tk) (y4 y5 y6 y7 y9 y10 y11 y17 y18 y19 y20 y21 y22 y23 y24 y25 y26 y27 y28 y29 y30 y31 y32 y33 y34 y35 y36 y37 y38 y39 y40 y41 y42 y43 y44 y45 y46 y47 y48 y49 y50:Value),a'={ tmps:=List.toArray (.string s::.int .i64 most::undef::undef::y4::y5::y6::y7::.int .i64 (q:Int)::y9::y10::y11::.string s::.int .i64 (s.size:Int)::.int .i64 most::.bool false::undef::y17::y18::y19::y20::y21::y22::y23::y24::y25::y26::y27::y28::y29::y30::y31::y32::y33::y34::y35::y36::y37::y38::y39::y40::y41::y42::y43::y44::y45::y46::y47::y48::y49::y50::undef::undef::undef::undef::undef::undef::[]),defers:=[] }∧AllRel 41 s w y7 q acc w'∧s.size-q≤s.size-p) (fun a' _=>s.size-(intOf (a'.tmps.getD 8 undef)).toNat)
   ⟨p,acc,_,_,_,_,_,_,_,_,_,_,_,_,_,_,_,_,_,_,_,_,_,_,_,_,_,_,_,_,_,_,_,_,_,_,_,_,_,_,_,_,_,rfl,HR0.out,Nat.le_refl _⟩ ?_
  clear HR0;rintro a' wr ⟨q,acc,y4,y5,y6,y7,y9,y10,y11,y17,y18,y19,y20,y21,y22,y23,y24,y25,y26,y27,y28,y29,y30,y31,y32,y33,y34,y35,y36,y37,y38,y39,y40,y41,y42,y43,y44,y45,y46,y47,y48,y49,y50,rfl,hrel,hqp⟩;have HA:=Hd hrel;have hq:=hrel.1;have hB:=Hd hrel.2.2.2.2;have HV1:=Hd (HV.out.below hrel.2.2.2.2);have HL:=Hd (ext_rest s q);have hsz:(s.extract q s.size).size≤1099511627776:=by rw [Lib.size_eq,ext_rest,List.length_drop,← Lib.size_eq];omega
  have HBL:=Hd (lxBlank (s.extract q s.size));rw [ext_rest] at HBL;clear hrel
  by_cases hb:0<blankN (s.data.toList.drop q)
  · have HA2:=Hd (HA.out.blank hb);have HQ:=Hd (Nat.le_trans HA2.out.1 (Nat.le_refl _));have hq2:=HA2.out.1;generalize blankN (s.data.toList.drop q)=n at *
    go_wp2_with fail
    refine(HBL.out _ (by omega)).mono ?_;rintro e w2 ⟨rfl,hb2⟩;have HA3:=Hd (HA2.out.on hb2);clear hb2
    go_wp2_with fail
    rw [← Int.natCast_add]
    go_step3
    simp only [Exit.inBlock,Exit.then];refine jump_to ?_;refine⟨?_,?_⟩
    · refine⟨q+n,acc,?_⟩;refine⟨_,_,_,_,_,_,_,_,_,_,_,_,_,_,_,_,_,_,_,_,_,_,_,_,_,_,_,_,_,_,_,_,_,_,_,_,_,_,_,_,_,rfl,?_,?_⟩
      · exact HA3.out
      · omega
    · simp [intOf]
      omega
  · have hb0:blankN (s.data.toList.drop q)=0:=by omega
    rw [hb0] at HBL;have HB0:=Hd hb0;clear hb hb0
    by_cases hqs:q=s.size
    · have heq:((q:Int)==(s.size:Int))=true:=by simpa using (by omega:(q:Int)=s.size)
      have HE:=Hd (AllRel.all (hqs ▸ HA.out));have HQ:=Hd hqs;clear hqs
      go_wp2_with fail
      refine(HBL.out _ (by omega)).mono ?_;rintro e w2 ⟨rfl,hb2⟩;have HA3:=Hd (HA.out.on hb2);have hrow:=HA3.out.2.2.1;have hlen:=HA3.out.2.1;have hBz:=HA3.out.2.2.2.2.size;have HBW:=Hd HA3.out.2.2.2.2;clear hb2
      go_wp2_with fail
      simp only [Exit.jump,Exit.inBlock]
      go_wp2_with (at_builtin;go_must (refine wpList_append_own _ rfl _ _ 38 rfl w.heap.size 41 i0 (tkV tk0) 4 40 Tryz.underlying38 hi hz0 hz1 hz2 rfl (by decide) _ _ _ rfl (hrow.alloc _) ⟨w2.heap.size,0,none⟩ 1 1 (tkA ⟨6,[],0,q⟩).toList rfl rfl (cells_new1 _ _ _) (by rw [← flatT_one];exact flatT_ones _) (by unfold maxLen;omega) (by omega) (by simp;omega) ?_;intro v' w1 hown' hgrow _))
      rw [Exit.noGoto_ret];have hBE:=(HBW.out.alloc hBz (.cells (tkA ⟨6,[],0,q⟩) 41)).grown hgrow (by simp;omega) (fun j hj=>(hrow.lt j hj).1);obtain⟨A,c,rfl,hR⟩:=RdK.of_own (ts:=acc++[⟨6,[],0,q⟩]) (by rw [flatT_app,flatT_one];exact hown') (by omega);exact bodyPost_ret (v:=.tuple #[.slice A (acc.length+1) c,.int .i64 (q:Int),.int .i64 0]) (by simp [results,Tryz.results19,go_sem]) rfl ⟨AllAns.yes HE.out HQ.out hR,hBE⟩
    · have hne:((q:Int)==(s.size:Int))=false:=by simpa using (by omega:¬ (q:Int)=s.size)
      have hlt:q<s.size:=by omega
      have HF:=Hd (fun(w:World) (hv:Vars w)=>lxFirst (s.extract q s.size) w (by omega) hv (by rw [Lib.size_eq,ext_rest,List.length_drop,← Lib.size_eq];omega));rw [ext_rest] at HF;clear hqs
      cases ht:tokL (s.data.toList.drop q) with
      | none=>
       rw [ht] at HF;have HE:=Hd (HA.out.bad hlt HB0.out ht);simp only [tkR,tkV,tkA,tk0] at HF
       go_wp2_with fail
       refine(HBL.out _ (by omega)).mono ?_;rintro e w2 ⟨rfl,hb2⟩;have HA3:=Hd (HA.out.on hb2);have HV3:=Hd (HV1.out.below hb2);clear hb2
       go_wp2_with fail
       refine(HF.out _ HV3.out).mono ?_;rintro e w3 ⟨rfl,hb3⟩;have HA4:=Hd (HA3.out.on hb3);clear hb3 HV1 HV3;have HBW:=Hd HA4.out.2.2.2.2
       go_wp2_with fail
       simp only [Exit.jump,Exit.inBlock]
       go_wp2_with fail
       rw [Exit.noGoto_ret];exact bodyPost_ret (v:=.tuple #[.slice none 0 0,.int .i64 (q:Int),.int .i64 2]) (by simp [results,Tryz.results19,go_sem]) rfl ⟨AllAns.no HE.out,HBW.out.alloc HBW.out.size _⟩
      | some x=>
       obtain⟨t,z⟩:=x;rw [ht] at HF;have HT:=Hd ht;clear ht;simp only [tkR,tkV,tkA] at HF
       go_wp2_with fail
       refine(HBL.out _ (by omega)).mono ?_;rintro e w2 ⟨rfl,hb2⟩;have HA3:=Hd (HA.out.on hb2);have HV3:=Hd (HV1.out.below hb2);clear hb2
       go_wp2_with fail
       refine(HF.out _ HV3.out).mono ?_;rintro e w3 ⟨rfl,hb3⟩;have HA4:=Hd (HA3.out.on hb3);clear hb3 HV1 HV3;have hz0':((z:Int)==0)=false:=by have:=(tok_ok HT.out).1;simpa using (by omega:¬ (z:Int)=0)
       have hzq:q+z≤s.size:=by have:=(tok_ok HT.out).2.1;rw [List.length_drop,← Lib.size_eq] at this;omega
       have hrow:=HA4.out.2.2.1;have hlen:=HA4.out.2.1;have hBz:=HA4.out.2.2.2.2.size;have HBW:=Hd HA4.out.2.2.2.2
       go_upto_region 13 with(fail)
       go_wp2_with (at_builtin;go_must (refine wpList_append_own _ rfl _ _ 38 rfl w.heap.size 41 i0 (tkV tk0) 4 40 Tryz.underlying38 hi hz0 hz1 hz2 rfl (by decide) _ _ _ rfl ((hrow.alloc _).alloc _) ⟨w3.heap.size+1,0,none⟩ 1 1 (tkA { t with a:=q }).toList rfl rfl (cells_new _ _ _ _) (by rw [← flatT_one];exact flatT_ones _) (by unfold maxLen;omega) (by omega) (by simp;omega) ?_;intro v' w1 hown' hgrow _))
       have hBE:=Hd (((HBW.out.alloc hBz (.cells (tkA { t with a:=q }) 41)).alloc (by simp;omega) (.cells (tkA { t with a:=q }) 41)).grown hgrow (by simp;omega) (fun j hj=>(hrow.lt j hj).1));have HN:=Hd (HA4.out.tok HB0.out HT.out hown' hBE.out);have hzp:=(tok_ok HT.out).1;clear hown' hgrow hrow;simp only [Exit.jump]
       go_roundw
       case rel=>
        refine⟨_,_,_,_,_,_,_,_,_,_,_,_,_,_,_,_,_,_,_,_,_,_,_,_,_,_,_,_,_,_,_,_,_,_,_,_,_,_,_,_,_,_,?_,rfl⟩;exact⟨q+z,acc++[{ t with a:=q }],by go_num,HN.out⟩
       case measure=>simp [intOf];omega
end
section
open Go.RowKit Go.Sort
theorem AllRel.skip{T:TypeId}{s:ByteArray}{w w':World}{v:Value}{p q:Nat}{acc:List Tk}(h:AllRel T s w v p acc w') (k:SkipTo s p q):AllRel T s w v q acc w' :=
 ⟨k.2.1,by have:=h.2.1;have:=k.1;omega,h.2.2.1,by rw [h.2.2.2.1,k.2.2],h.2.2.2.2⟩
end
end Go.Proofs.YtokiaaapgkdpmaaGreatDoor
