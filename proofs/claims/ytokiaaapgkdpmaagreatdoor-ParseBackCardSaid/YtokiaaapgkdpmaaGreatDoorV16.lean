/- Parts of the proof: LxF, LxG, LxI, LxJ, LxK, LxN. Conditions: each theorem's own. -/
import Derived.StillTailTactics
import Derived.Test.YtokiaaapgkdpmaaGreatDoorV15
namespace Go.Proofs.YtokiaaapgkdpmaaGreatDoor
set_option linter.unusedVariables false
set_option linter.unusedSimpArgs false
set_option maxRecDepth 100000
set_option maxHeartbeats 40000000
section
open Go.RowKit Go.Sort
theorem ext_one{s:ByteArray}(h0:0<s.size):(s.extract 0 1).toList=[s[0]'h0]:=by
 obtain⟨F,hl⟩:=head_at h0;rw [Lib.toList_data,ext_list,hl];rfl
theorem lxFirst_name(s:ByteArray) (w:World) (hs:s.size≤281474976710656) (hv:Vars w) (h0:0<s.size) (h1:letB ((s[0]'h0).toNat:Int)=true):
 Calls Tryz.prog 40 #[.string s] w fun e w'=>e=.returned (tkR (tokL s.data.toList))∧Below w.heap.size w w':=by
 obtain⟨F,hl⟩:=head_at h0;have HT:Hid (tokL s.data.toList=nameT s.data.toList):=Hd (by rw [hl,tok_cons,if_pos h1]);have h01:1≤s.size:=h0;have HV:=Hd hv;clear hv hl;rw [HT.out];have HC:Hid (∀ w,Vars w→Calls Tryz.prog 80 #[.string s] w fun e w'=>e=.returned (tkR (nameT s.data.toList))∧Below w.heap.size w w'):=Hd (fun w hv=>lxName s w (by omega));generalize nameT s.data.toList=o at HC ⊢;clear HT
 cases o with
 | none=>
  simp only [tkR,tkV,tkA,tk0] at HC ⊢;have HG0:Hid (Row4 41 (w.alloc (.cells #[.int .i64 0,.string ⟨#[]⟩,.int .i64 0,.int .i64 0] 41)) w.heap.size tk0):=Hd (Row4.new _ w tk0);have HB0:Hid (Below w.heap.size w (w.alloc (.cells #[.int .i64 0,.string ⟨#[]⟩,.int .i64 0,.int .i64 0] 41))):=Hd ((Below.refl _ _).alloc (Nat.le_refl _) _)
  go_enter Tryz.func40,Tryz.ntmps40
  go_upto_region 1 with(fail)
  have HV1:=Hd (HV.out.below HB0.out);generalize (w.alloc (.cells #[.int .i64 0,.string ⟨#[]⟩,.int .i64 0,.int .i64 0] 41))=w1 at *;clear HV
  go_wp2_with fail
  refine(lxLetter _ _).mono ?_;rw [h1];rintro e w' ⟨rfl,rfl⟩
  go_wp2_with fail
  refine(HC.out _ HV1.out).mono ?_;rintro e w2 ⟨rfl,hb⟩;have HG2:=Hd (HG0.out.below hb);have HB2:=Hd (HB0.out.trans (hb.mono HB0.out.size));clear hb HV1 HC
  go_wp2_with (refine wpList_store_row rfl _ _ _ rfl w.heap.size _ rfl rfl _ _ HG2.out tk_info rfl (by simp [Value.oneCell']) ?_)
  exact bodyPost_ret (res_tk2 (p:=2) (u:=3) rfl _ _ w.heap.size tk0 rfl (HG2.out.set tk0)) rfl ⟨rfl,below_setRow HB2.out (Nat.le_refl _) _⟩
 | some x=>
  obtain⟨t,z⟩:=x;simp only [tkR,tkV,tkA] at HC ⊢;have HG0:Hid (Row4 41 (w.alloc (.cells #[.int .i64 0,.string ⟨#[]⟩,.int .i64 0,.int .i64 0] 41)) w.heap.size tk0):=Hd (Row4.new _ w tk0);have HB0:Hid (Below w.heap.size w (w.alloc (.cells #[.int .i64 0,.string ⟨#[]⟩,.int .i64 0,.int .i64 0] 41))):=Hd ((Below.refl _ _).alloc (Nat.le_refl _) _)
  go_enter Tryz.func40,Tryz.ntmps40
  go_upto_region 1 with(fail)
  have HV1:=Hd (HV.out.below HB0.out);generalize (w.alloc (.cells #[.int .i64 0,.string ⟨#[]⟩,.int .i64 0,.int .i64 0] 41))=w1 at *;clear HV
  go_wp2_with fail
  refine(lxLetter _ _).mono ?_;rw [h1];rintro e w' ⟨rfl,rfl⟩
  go_wp2_with fail
  refine(HC.out _ HV1.out).mono ?_;rintro e w2 ⟨rfl,hb⟩;have HG2:=Hd (HG0.out.below hb);have HB2:=Hd (HB0.out.trans (hb.mono HB0.out.size));clear hb HV1 HC
  go_wp2_with (refine wpList_store_row rfl _ _ _ rfl w.heap.size _ rfl rfl _ _ HG2.out tk_info rfl (by simp [Value.oneCell']) ?_)
  exact bodyPost_ret (res_tk2 (p:=2) (u:=3) rfl _ _ w.heap.size t rfl (HG2.out.set t)) rfl ⟨rfl,below_setRow HB2.out (Nat.le_refl _) _⟩
theorem lxFirst_number(s:ByteArray) (w:World) (hs:s.size≤281474976710656) (hv:Vars w) (h0:0<s.size) (h1:letB ((s[0]'h0).toNat:Int)=false) (h2:digitB ((s[0]'h0).toNat:Int)=true):
 Calls Tryz.prog 40 #[.string s] w fun e w'=>e=.returned (tkR (tokL s.data.toList))∧Below w.heap.size w w':=by
 obtain⟨F,hl⟩:=head_at h0;have HT:Hid (tokL s.data.toList=numT s.data.toList):=Hd (by rw [hl,tok_cons,if_neg (by rw [h1];simp),if_pos h2]);have h01:1≤s.size:=h0;have HD:Hid (digL s.data.toList≠[]):=Hd (fun e=>by have:=tw_pos (p:=fun c=>digitB (c.toNat:Int)) (l:=F) h2;rw [← hl] at this;unfold digL at e;rw [e] at this;exact absurd this (by simp));have HV:=Hd hv;clear hv hl;rw [HT.out];have HC:Hid (∀ w,Vars w→Calls Tryz.prog 82 #[.string s] w fun e w'=>e=.returned (tkR (numT s.data.toList))∧Below w.heap.size w w'):=Hd (fun w hv=>lxNumber s w hs hv HD.out);generalize numT s.data.toList=o at HC ⊢;clear HT HD
 cases o with
 | none=>
  simp only [tkR,tkV,tkA,tk0] at HC ⊢;have HG0:Hid (Row4 41 (w.alloc (.cells #[.int .i64 0,.string ⟨#[]⟩,.int .i64 0,.int .i64 0] 41)) w.heap.size tk0):=Hd (Row4.new _ w tk0);have HB0:Hid (Below w.heap.size w (w.alloc (.cells #[.int .i64 0,.string ⟨#[]⟩,.int .i64 0,.int .i64 0] 41))):=Hd ((Below.refl _ _).alloc (Nat.le_refl _) _)
  go_enter Tryz.func40,Tryz.ntmps40
  go_upto_region 1 with(fail)
  have HV1:=Hd (HV.out.below HB0.out);generalize (w.alloc (.cells #[.int .i64 0,.string ⟨#[]⟩,.int .i64 0,.int .i64 0] 41))=w1 at *;clear HV
  go_wp2_with fail
  refine(lxLetter _ _).mono ?_;rw [h1];rintro e w' ⟨rfl,rfl⟩
  go_wp2_with fail
  refine(lxDigit _ _).mono ?_;rw [h2];rintro e w' ⟨rfl,rfl⟩
  go_wp2_with fail
  refine(HC.out _ HV1.out).mono ?_;rintro e w2 ⟨rfl,hb⟩;have HG2:=Hd (HG0.out.below hb);have HB2:=Hd (HB0.out.trans (hb.mono HB0.out.size));clear hb HV1 HC
  go_wp2_with (refine wpList_store_row rfl _ _ _ rfl w.heap.size _ rfl rfl _ _ HG2.out tk_info rfl (by simp [Value.oneCell']) ?_)
  exact bodyPost_ret (res_tk2 (p:=2) (u:=3) rfl _ _ w.heap.size tk0 rfl (HG2.out.set tk0)) rfl ⟨rfl,below_setRow HB2.out (Nat.le_refl _) _⟩
 | some x=>
  obtain⟨t,z⟩:=x;simp only [tkR,tkV,tkA] at HC ⊢;have HG0:Hid (Row4 41 (w.alloc (.cells #[.int .i64 0,.string ⟨#[]⟩,.int .i64 0,.int .i64 0] 41)) w.heap.size tk0):=Hd (Row4.new _ w tk0);have HB0:Hid (Below w.heap.size w (w.alloc (.cells #[.int .i64 0,.string ⟨#[]⟩,.int .i64 0,.int .i64 0] 41))):=Hd ((Below.refl _ _).alloc (Nat.le_refl _) _)
  go_enter Tryz.func40,Tryz.ntmps40
  go_upto_region 1 with(fail)
  have HV1:=Hd (HV.out.below HB0.out);generalize (w.alloc (.cells #[.int .i64 0,.string ⟨#[]⟩,.int .i64 0,.int .i64 0] 41))=w1 at *;clear HV
  go_wp2_with fail
  refine(lxLetter _ _).mono ?_;rw [h1];rintro e w' ⟨rfl,rfl⟩
  go_wp2_with fail
  refine(lxDigit _ _).mono ?_;rw [h2];rintro e w' ⟨rfl,rfl⟩
  go_wp2_with fail
  refine(HC.out _ HV1.out).mono ?_;rintro e w2 ⟨rfl,hb⟩;have HG2:=Hd (HG0.out.below hb);have HB2:=Hd (HB0.out.trans (hb.mono HB0.out.size));clear hb HV1 HC
  go_wp2_with (refine wpList_store_row rfl _ _ _ rfl w.heap.size _ rfl rfl _ _ HG2.out tk_info rfl (by simp [Value.oneCell']) ?_)
  exact bodyPost_ret (res_tk2 (p:=2) (u:=3) rfl _ _ w.heap.size t rfl (HG2.out.set t)) rfl ⟨rfl,below_setRow HB2.out (Nat.le_refl _) _⟩
theorem lxFirst_path(s:ByteArray) (w:World) (hs:s.size≤281474976710656) (hv:Vars w) (h0:0<s.size) (h1:letB ((s[0]'h0).toNat:Int)=false) (h2:digitB ((s[0]'h0).toNat:Int)=false) (h3:s[0]'h0=39):
 Calls Tryz.prog 40 #[.string s] w fun e w'=>e=.returned (tkR (tokL s.data.toList))∧Below w.heap.size w w':=by
 obtain⟨F,hl⟩:=head_at h0;have HT:Hid (tokL s.data.toList=pathT (s.data.toList.drop 1)):=Hd (by rw [hl,tok_cons,if_neg (by rw [h1];simp),if_neg (by rw [h2];simp),if_pos h3];rfl);have h01:1≤s.size:=h0;have hq:((s.extract 0 1).toList==[39])=true:=by rw [ext_one h0];simpa using h3
 clear h3;have HV:=Hd hv;clear hv hl;rw [HT.out];have HC:Hid (∀ w,Vars w→Calls Tryz.prog 83 #[.string s] w fun e w'=>e=.returned (tkR (pathT (s.data.toList.drop 1)))∧Below w.heap.size w w'):=Hd (fun w hv=>lxPath s w hs h0);generalize pathT (s.data.toList.drop 1)=o at HC ⊢;clear HT
 cases o with
 | none=>
  simp only [tkR,tkV,tkA,tk0] at HC ⊢;have HG0:Hid (Row4 41 (w.alloc (.cells #[.int .i64 0,.string ⟨#[]⟩,.int .i64 0,.int .i64 0] 41)) w.heap.size tk0):=Hd (Row4.new _ w tk0);have HB0:Hid (Below w.heap.size w (w.alloc (.cells #[.int .i64 0,.string ⟨#[]⟩,.int .i64 0,.int .i64 0] 41))):=Hd ((Below.refl _ _).alloc (Nat.le_refl _) _)
  go_enter Tryz.func40,Tryz.ntmps40
  go_upto_region 1 with(fail)
  have HV1:=Hd (HV.out.below HB0.out);generalize (w.alloc (.cells #[.int .i64 0,.string ⟨#[]⟩,.int .i64 0,.int .i64 0] 41))=w1 at *;clear HV
  go_wp2_with fail
  refine(lxLetter _ _).mono ?_;rw [h1];rintro e w' ⟨rfl,rfl⟩
  go_wp2_with fail
  refine(lxDigit _ _).mono ?_;rw [h2];rintro e w' ⟨rfl,rfl⟩
  go_wp2_with fail
  refine(HC.out _ HV1.out).mono ?_;rintro e w2 ⟨rfl,hb⟩;have HG2:=Hd (HG0.out.below hb);have HB2:=Hd (HB0.out.trans (hb.mono HB0.out.size));clear hb HV1 HC
  go_wp2_with (refine wpList_store_row rfl _ _ _ rfl w.heap.size _ rfl rfl _ _ HG2.out tk_info rfl (by simp [Value.oneCell']) ?_)
  exact bodyPost_ret (res_tk2 (p:=2) (u:=3) rfl _ _ w.heap.size tk0 rfl (HG2.out.set tk0)) rfl ⟨rfl,below_setRow HB2.out (Nat.le_refl _) _⟩
 | some x=>
  obtain⟨t,z⟩:=x;simp only [tkR,tkV,tkA] at HC ⊢;have HG0:Hid (Row4 41 (w.alloc (.cells #[.int .i64 0,.string ⟨#[]⟩,.int .i64 0,.int .i64 0] 41)) w.heap.size tk0):=Hd (Row4.new _ w tk0);have HB0:Hid (Below w.heap.size w (w.alloc (.cells #[.int .i64 0,.string ⟨#[]⟩,.int .i64 0,.int .i64 0] 41))):=Hd ((Below.refl _ _).alloc (Nat.le_refl _) _)
  go_enter Tryz.func40,Tryz.ntmps40
  go_upto_region 1 with(fail)
  have HV1:=Hd (HV.out.below HB0.out);generalize (w.alloc (.cells #[.int .i64 0,.string ⟨#[]⟩,.int .i64 0,.int .i64 0] 41))=w1 at *;clear HV
  go_wp2_with fail
  refine(lxLetter _ _).mono ?_;rw [h1];rintro e w' ⟨rfl,rfl⟩
  go_wp2_with fail
  refine(lxDigit _ _).mono ?_;rw [h2];rintro e w' ⟨rfl,rfl⟩
  go_wp2_with fail
  refine(HC.out _ HV1.out).mono ?_;rintro e w2 ⟨rfl,hb⟩;have HG2:=Hd (HG0.out.below hb);have HB2:=Hd (HB0.out.trans (hb.mono HB0.out.size));clear hb HV1 HC
  go_wp2_with (refine wpList_store_row rfl _ _ _ rfl w.heap.size _ rfl rfl _ _ HG2.out tk_info rfl (by simp [Value.oneCell']) ?_)
  exact bodyPost_ret (res_tk2 (p:=2) (u:=3) rfl _ _ w.heap.size t rfl (HG2.out.set t)) rfl ⟨rfl,below_setRow HB2.out (Nat.le_refl _) _⟩
theorem lxFirst_mark(s:ByteArray) (w:World) (hs:s.size≤281474976710656) (hv:Vars w) (h0:0<s.size) (h1:letB ((s[0]'h0).toNat:Int)=false) (h2:digitB ((s[0]'h0).toNat:Int)=false) (h3:¬ s[0]'h0=39):
 Calls Tryz.prog 40 #[.string s] w fun e w'=>e=.returned (tkR (tokL s.data.toList))∧Below w.heap.size w w':=by
 obtain⟨F,hl⟩:=head_at h0;have HT:Hid (tokL s.data.toList=markT s.data.toList):=Hd (by rw [hl,tok_cons,if_neg (by rw [h1];simp),if_neg (by rw [h2];simp),if_neg h3]);have h01:1≤s.size:=h0;have hq:((s.extract 0 1).toList==[39])=false:=by rw [ext_one h0];simpa using h3
 clear h3;have HV:=Hd hv;clear hv hl;rw [HT.out];have HC:Hid (∀ w,Vars w→Calls Tryz.prog 84 #[.string s] w fun e w'=>e=.returned (tkR (markT s.data.toList))∧Below w.heap.size w w'):=Hd (fun w hv=>lxMark s w hs hv);generalize markT s.data.toList=o at HC ⊢;clear HT
 cases o with
 | none=>
  simp only [tkR,tkV,tkA,tk0] at HC ⊢;have HG0:Hid (Row4 41 (w.alloc (.cells #[.int .i64 0,.string ⟨#[]⟩,.int .i64 0,.int .i64 0] 41)) w.heap.size tk0):=Hd (Row4.new _ w tk0);have HB0:Hid (Below w.heap.size w (w.alloc (.cells #[.int .i64 0,.string ⟨#[]⟩,.int .i64 0,.int .i64 0] 41))):=Hd ((Below.refl _ _).alloc (Nat.le_refl _) _)
  go_enter Tryz.func40,Tryz.ntmps40
  go_upto_region 1 with(fail)
  have HV1:=Hd (HV.out.below HB0.out);generalize (w.alloc (.cells #[.int .i64 0,.string ⟨#[]⟩,.int .i64 0,.int .i64 0] 41))=w1 at *;clear HV
  go_wp2_with fail
  refine(lxLetter _ _).mono ?_;rw [h1];rintro e w' ⟨rfl,rfl⟩
  go_wp2_with fail
  refine(lxDigit _ _).mono ?_;rw [h2];rintro e w' ⟨rfl,rfl⟩
  go_wp2_with fail
  refine(HC.out _ HV1.out).mono ?_;rintro e w2 ⟨rfl,hb⟩;have HG2:=Hd (HG0.out.below hb);have HB2:=Hd (HB0.out.trans (hb.mono HB0.out.size));clear hb HV1 HC
  go_wp2_with (refine wpList_store_row rfl _ _ _ rfl w.heap.size _ rfl rfl _ _ HG2.out tk_info rfl (by simp [Value.oneCell']) ?_)
  exact bodyPost_ret (res_tk2 (p:=2) (u:=3) rfl _ _ w.heap.size tk0 rfl (HG2.out.set tk0)) rfl ⟨rfl,below_setRow HB2.out (Nat.le_refl _) _⟩
 | some x=>
  obtain⟨t,z⟩:=x;simp only [tkR,tkV,tkA] at HC ⊢;have HG0:Hid (Row4 41 (w.alloc (.cells #[.int .i64 0,.string ⟨#[]⟩,.int .i64 0,.int .i64 0] 41)) w.heap.size tk0):=Hd (Row4.new _ w tk0);have HB0:Hid (Below w.heap.size w (w.alloc (.cells #[.int .i64 0,.string ⟨#[]⟩,.int .i64 0,.int .i64 0] 41))):=Hd ((Below.refl _ _).alloc (Nat.le_refl _) _)
  go_enter Tryz.func40,Tryz.ntmps40
  go_upto_region 1 with(fail)
  have HV1:=Hd (HV.out.below HB0.out);generalize (w.alloc (.cells #[.int .i64 0,.string ⟨#[]⟩,.int .i64 0,.int .i64 0] 41))=w1 at *;clear HV
  go_wp2_with fail
  refine(lxLetter _ _).mono ?_;rw [h1];rintro e w' ⟨rfl,rfl⟩
  go_wp2_with fail
  refine(lxDigit _ _).mono ?_;rw [h2];rintro e w' ⟨rfl,rfl⟩
  go_wp2_with fail
  refine(HC.out _ HV1.out).mono ?_;rintro e w2 ⟨rfl,hb⟩;have HG2:=Hd (HG0.out.below hb);have HB2:=Hd (HB0.out.trans (hb.mono HB0.out.size));clear hb HV1 HC
  go_wp2_with (refine wpList_store_row rfl _ _ _ rfl w.heap.size _ rfl rfl _ _ HG2.out tk_info rfl (by simp [Value.oneCell']) ?_)
  exact bodyPost_ret (res_tk2 (p:=2) (u:=3) rfl _ _ w.heap.size t rfl (HG2.out.set t)) rfl ⟨rfl,below_setRow HB2.out (Nat.le_refl _) _⟩
theorem lxFirst(s:ByteArray) (w:World) (hs:s.size≤281474976710656) (hv:Vars w) (h0:0<s.size):
 Calls Tryz.prog 40 #[.string s] w fun e w'=>e=.returned (tkR (tokL s.data.toList))∧Below w.heap.size w w':=by
 cases h1:letB ((s[0]'h0).toNat:Int) with
 | true=>exact lxFirst_name s w hs hv h0 h1
 | false=>
  cases h2:digitB ((s[0]'h0).toNat:Int) with
  | true=>exact lxFirst_number s w hs hv h0 h1 h2
  | false=>
   by_cases h3:s[0]'h0=39
   · exact lxFirst_path s w hs hv h0 h1 h2 h3
   · exact lxFirst_mark s w hs hv h0 h1 h2 h3
end
section
open Go.RowKit Go.Sort
theorem cut_line{l a b:List UInt8}{f:Bool}(hc:(10:UInt8)∉a) (hf:f=false→l=a) (ht:f=true→l=a++10::b):lineL l=a:=by
 have ha:∀ c∈a,(fun c:UInt8=>c != 10) c=true:=fun c h=>by
  have:c≠10:=fun e=>hc (e ▸ h)
  simpa using this
 cases f with
 | false=>exact tw_eq ha (.inl (hf rfl))
 | true=>exact tw_eq ha (.inr ⟨10,b,ht rfl,by decide⟩)
theorem has_space(c:UInt8):decide (0≤Lib.indexByte [9,10,13,32] c)=spaceB c:=by
 by_cases h:0≤Lib.indexByte [9,10,13,32] c
 · rw [decide_eq_true h];obtain⟨k,_,h2,_,h4⟩:=index_some h;have hm:c∈([9,10,13,32]:List UInt8):=by rw [h4];simp
   simp at hm
   rcases hm with rfl | rfl | rfl | rfl <;> rfl
 · rw [decide_eq_false h];have hn:=index_none (by omega:Lib.indexByte [9,10,13,32] c<0)
   simp at hn
   simp [spaceB,hn]
theorem ext_one_of{s:ByteArray}(h0:0<s.size):s.extract 0 1=⟨#[s[0]'h0]⟩:=by
 obtain⟨F,hl⟩:=head_at h0;exact eq_ofL (l:=[s[0]'h0]) (by rw [ext_list,hl];rfl)
theorem lxBlank(s:ByteArray) (w:World) (hs:s.size≤281474976710656):
 Calls Tryz.prog 39 #[.string s] w fun e w'=>e=.returned (.int .i64 (blankN s.data.toList:Nat))∧Below w.heap.size w w':=by
 have HC:=Hd (libPrefix s ⟨#[45,45]⟩);rw [show((⟨#[45,45]⟩:ByteArray).data.toList)=[45,45] from rfl] at HC
 cases hp:([45,45]:List UInt8).isPrefixOf s.data.toList with
 | true=>
  have HE:Hid (blankN s.data.toList=(lineL s.data.toList).length):=Hd (by unfold blankN;rw [if_pos hp]);rw [hp] at HC;clear hp;rw [HE.out]
  go_enter Tryz.func39,Tryz.ntmps39
  go_wp2_with fail
  refine(HC.out _).mono ?_;rintro e w1 ⟨rfl,rfl⟩
  go_wp2_with fail
  refine(strCut s 10 _ (by omega)).mono ?_;rintro e w2 ⟨a,b,f,rfl,hb,hc,hf,ht⟩;have hq:=Hd (cut_line hc hf ht);have HB:=Hd hb;clear hb hc hf ht
  go_wp2_with fail
  go_ret
  exact⟨ret_int (by rw [hq.out,Lib.size_eq]),HB.out⟩
 | false=>
  rw [hp] at HC
  by_cases h0:0<s.size
  · have hx:=ext_one_of h0;obtain⟨F,hl⟩:=head_at h0;have HE:Hid (blankN s.data.toList=if spaceB (s[0]'h0)=true then 1 else 0):=Hd (by unfold blankN;rw [if_neg (by rw [hp];simp),hl]);have HS:=Hd (libHas ⟨#[9,10,13,32]⟩ (s[0]'h0));rw [show((⟨#[9,10,13,32]⟩:ByteArray).data.toList)=[9,10,13,32] from rfl,has_space] at HS;have hne:(s.toList==[])=false:=by rw [Lib.toList_data,hl];rfl
    have h01:1≤s.size:=h0;clear hp hl;rw [HE.out]
    cases hb:spaceB (s[0]'h0) with
    | true=>
     rw [hb] at HS
     go_enter Tryz.func39,Tryz.ntmps39
     go_wp2_with fail
     refine(HC.out _).mono ?_;rintro e w1 ⟨rfl,rfl⟩
     go_wp2_with fail
     refine(HS.out _).mono ?_;rintro e w1 ⟨rfl,rfl⟩
     go_wp2_with fail
     go_ret
     exact⟨rfl,Below.refl _ _⟩
    | false=>
     rw [hb] at HS
     go_enter Tryz.func39,Tryz.ntmps39
     go_wp2_with fail
     refine(HC.out _).mono ?_;rintro e w1 ⟨rfl,rfl⟩
     go_wp2_with fail
     refine(HS.out _).mono ?_;rintro e w1 ⟨rfl,rfl⟩
     go_wp2_with fail
     go_ret
     exact⟨rfl,Below.refl _ _⟩
  · have hl:s.data.toList=[]:=List.eq_nil_of_length_eq_zero (by rw [← Lib.size_eq];omega);have HE:Hid (blankN s.data.toList=0):=Hd (by rw [hl];rfl);have hne:(s.toList==[])=true:=by rw [Lib.toList_data,hl];rfl
    clear hp hl;rw [HE.out]
    go_enter Tryz.func39,Tryz.ntmps39
    go_wp2_with fail
    refine(HC.out _).mono ?_;rintro e w1 ⟨rfl,rfl⟩
    go_wp2_with fail
    go_ret
    exact⟨rfl,Below.refl _ _⟩
theorem ext_rest(s:ByteArray) (p:Nat):(s.extract p s.size).data.toList=s.data.toList.drop p:=by
 rw [Lib.extract_data,List.take_of_length_le (by rw [Lib.size_eq];simp)]
def flatT(ts:List Tk):List Value:=ts.flatMap fun t=>(tkA t).toList
theorem flatT_len:∀ ts:List Tk,(flatT ts).length=ts.length*4
 | []=>rfl
 | t::ts=>by
  have ih:=flatT_len ts;simp only [flatT,List.flatMap_cons,List.length_append,List.length_cons] at ih ⊢;rw [ih]
  simp [tkA];omega
theorem flatT_app(a b:List Tk):flatT (a++b)=flatT a++flatT b:=by simp [flatT]
theorem flatT_one(t:Tk):flatT [t]=(tkA t).toList:=by simp [flatT]
theorem flatT_at:∀ (ts:List Tk) (i j:Nat),i<ts.length→j<4→(flatT ts)[i*4+j]?=(tkA (ts[i]?.getD default))[j]?
 | t::ts,0,j,_,hj=>by
  have hz:j<(tkA t).toList.length:=by simpa [tkA] using hj
  simp only [flatT,List.flatMap_cons,Nat.zero_mul,Nat.zero_add];rw [List.getElem?_append_left hz]
  simp
 | t::ts,i+1,j,hi,hj=>by
  have ih:=flatT_at ts i j (by simpa using hi) hj;have hz:(tkA t).toList.length=4:=by simp [tkA]
  simp only [flatT,List.flatMap_cons];rw [List.getElem?_append_right (by rw [hz];omega),hz,show(i+1)*4+j-4=i*4+j by omega]
  simpa [flatT] using ih
theorem flatT_ones(ts:List Tk):∀ u∈flatT ts,u.oneCell'=true:=by
 intro u hu;simp only [flatT,List.mem_flatMap] at hu;obtain⟨t,_,hu⟩:=hu
 simp [tkA] at hu
 rcases hu with rfl | rfl | rfl | rfl <;> rfl
def RdK(w:World) (A:Option Addr) (n:Nat) (ts:List Tk):Prop:=
 ts.length=n∧n≤9223372036854775807 ∧
 (0<n→∃ b off,A=some ⟨b,off,none⟩∧b<w.heap.size∧∀ i,i<n →
  w.cell? ⟨b,off+i*4,none⟩=some (.int .i64 (ts[i]?.getD default).k)∧w.cell? ⟨b,off+i*4+1,none⟩=some (.string (ofL (ts[i]?.getD default).s)) ∧
  w.cell? ⟨b,off+i*4+2,none⟩=some (.int .i64 (ts[i]?.getD default).n)∧w.cell? ⟨b,off+i*4+3,none⟩=some (.int .i64 ((ts[i]?.getD default).a:Int)))
section
variable {w w':World}{A:Option Addr}{n:Nat}{ts:List Tk}
theorem RdK.nil_(w:World):RdK w none 0 []:=⟨rfl,by omega,by omega⟩
theorem RdK.below(h:RdK w A n ts) (hb:Below w.heap.size w w'):RdK w' A n ts:=
 ⟨h.1,h.2.1,fun hn=>by
  obtain⟨b,off,e,hlt,hc⟩:=h.2.2 hn;refine⟨b,off,e,Nat.lt_of_lt_of_le hlt hb.size,fun i hi=>?_⟩;obtain⟨h0,h1,h2,h3⟩:=hc i hi;exact⟨(hb.cell hlt).trans h0,(hb.cell hlt).trans h1,(hb.cell hlt).trans h2,(hb.cell hlt).trans h3⟩⟩
theorem RdK.of_own{base:Nat}{e:TypeId}{v:Value}(h:w.ownsRow base e 4 v n (flatT ts)) (hm:n≤9223372036854775807):
 ∃ A c,v=.slice A n c∧RdK w A n ts:=by
 have hl:ts.length=n:=by
  have:=h.1;rw [flatT_len] at this;omega
 rcases h.2 with⟨rfl,rfl⟩|⟨g,cap,cur,rfl,hg,hh,hnc,hcm,hcs,ht⟩
 · obtain rfl:ts=[]:=List.eq_nil_of_length_eq_zero hl;exact⟨none,0,rfl,RdK.nil_ _⟩
 · refine⟨_,cap,rfl,hl,hm,fun hn=>⟨g,0,rfl,(Array.getElem?_eq_some_iff.1 hh).1,fun i hi=>?_⟩⟩
   have hc:∀ j,j<4→w.cell? ⟨g,0+i*4+j,none⟩=(tkA (ts[i]?.getD default))[j]?:=fun j hj=>by
    rw [Nat.zero_add,h.cellAt (i*4+j) (by omega),flatT_at ts i j (by omega) hj]
   exact⟨hc 0 (by omega),hc 1 (by omega),hc 2 (by omega),hc 3 (by omega)⟩
theorem own_below{base B:Nat}{e:TypeId}{size:Nat}{v:Value}{xs:List Value}(h:w.ownsRow base e size v n xs) (hb:Below B w w') (hB:w.heap.size≤B):w'.ownsRow base e size v n xs:=by
 refine⟨h.1,?_⟩;rcases h.2 with h | ⟨g,cap,cur,rfl,hg,hh,hr⟩
 · exact .inl h
 · have hlt:=(Array.getElem?_eq_some_iff.1 hh).1;exact .inr ⟨g,cap,cur,rfl,hg,(hb.block g (by omega)).trans hh,hr⟩
end
end
section
open Go.RowKit Go.Sort
def SkipTo(s:ByteArray) (p q:Nat):Prop:=p≤q∧q≤s.size∧lexL p (s.data.toList.drop p)=lexL q (s.data.toList.drop q)
section
variable {s:ByteArray}{p q k:Nat}
theorem SkipTo.start(h:p≤s.size):SkipTo s p p:=⟨Nat.le_refl _,h,rfl⟩
theorem drop_at(h:k<s.size):s.data.toList.drop k=s[k]'h::s.data.toList.drop (k+1):=by
 have hl:k<s.data.toList.length:=by rw [← Lib.size_eq];exact h
 rw [List.drop_eq_getElem_cons hl,at_list s k h]
def NoFeed(s:ByteArray) (k j:Nat):Prop:=k≤j∧j≤s.size∧∀ i (h:i<s.size),k≤i→i<j→¬ s[i]'h=10
theorem NoFeed.on{j:Nat}(H:NoFeed s k j) (h:j<s.size) (hc:¬ s[j]'h=10):NoFeed s k (j+1):=by
 refine⟨by have:=H.1;omega,by omega,fun i hi h1 h2=>?_⟩;rcases Nat.lt_or_ge i j with h3 | h3
 · exact H.2.2 i hi h1 h3
 · obtain rfl:i=j:=by omega
   exact hc
theorem NoFeed.line{j:Nat}(H:NoFeed s k j) (he:j=s.size∨∃ h:j<s.size,s[j]'h=10):(lineL (s.data.toList.drop k)).length=j-k:=by
 have hjz:j≤s.data.toList.length:=by rw [← Lib.size_eq];exact H.2.1
 have h1:lineL (s.data.toList.drop k)=(s.data.toList.drop k).take (j-k):=by
  refine tw_eq (fun c hc=>?_) ?_
  · obtain⟨i,hi,e⟩:=List.getElem_of_mem hc;rw [List.length_take,List.length_drop] at hi;have hik:k+i<s.size:=by rw [Lib.size_eq];omega
    rw [List.getElem_take,List.getElem_drop,at_list s (k+i) hik] at e;have:=H.2.2 (k+i) hik (by omega) (by omega);rw [e] at this
    simpa using this
  · rcases he with rfl | ⟨h,hc⟩
    · exact .inl (List.take_of_length_le (by rw [List.length_drop,← Lib.size_eq];omega)).symm
    · refine .inr ⟨10,s.data.toList.drop (j+1),?_,by decide⟩
      have h2:(s.data.toList.drop k).drop (j-k)=10::s.data.toList.drop (j+1):=by
       rw [List.drop_drop,show k+(j-k)=j by have:=H.1;omega,drop_at h,hc]
      rw [← h2,List.take_append_drop]
 rw [h1,List.length_take,List.length_drop];omega
theorem SkipTo.line{j:Nat}(H:SkipTo s p k) (N:NoFeed s k j) (h1:k+1<s.size) (ha:s[k]'(by omega)=45) (hb:s[k+1]'h1=45) (he:j=s.size∨∃ h:j<s.size,s[j]'h=10):SkipTo s p j:=by
 have hl:=N.line he;have h0:k<s.size:=by omega
 have hp:([45,45]:List UInt8).isPrefixOf (s.data.toList.drop k)=true:=by
  rw [drop_at h0,drop_at h1,ha,hb]
  simp
 have hbl:blankN (s.data.toList.drop k)=j-k:=by
  unfold blankN;rw [if_pos hp,hl]
 have hkj:k<j:=by
  have h2:(lineL (s.data.toList.drop k)).length≠0:=by
   rw [drop_at h0,ha]
   simp [lineL]
  omega
 refine⟨by have:=H.1;omega,N.2.1,?_⟩;rw [H.2.2,lex_blank (by rw [hbl];omega),hbl,List.drop_drop,show k+(j-k)=j by omega]
end
end
section
open Go.RowKit Go.Sort
theorem tw_ge{p:UInt8→Bool}:∀ (l:List UInt8) (m:Nat),m≤l.length→(∀ c∈l.take m,p c=true)→∃ r,l.takeWhile p=l.take m++r
 | l,0,_,_=>⟨l.takeWhile p,by simp⟩
 | [],m+1,h,_=>by simp at h
 | c::l,m+1,h,ha=>by
  have hc:=ha c (by simp);obtain⟨r,hr⟩:=tw_ge l m (by simpa using h) (fun c hc=>ha c (by simp [hc]));exact⟨r,by simp [hc,hr]⟩
def pieceL(s:ByteArray) (p k:Nat):List UInt8:=(s.data.toList.drop p).take (k-p)
section
variable {s:ByteArray}{p k v:Nat}
theorem piece_len(hp:p≤k) (hk:k≤s.size):(pieceL s p k).length=k-p:=by
 rw [pieceL,List.length_take,List.length_drop,← Lib.size_eq];omega
theorem piece_on(hp:p≤k) (h:k<s.size):pieceL s p (k+1)=pieceL s p k++[s[k]'h]:=by
 unfold pieceL;have e:k+1-p=(k-p)+1:=by omega
 have hl:k-p<(s.data.toList.drop p).length:=by rw [List.length_drop,← Lib.size_eq];omega
 rw [e,List.take_succ_eq_append_getElem hl,List.getElem_drop];have:p+(k-p)=k:=by omega
 simp only [this];rw [at_list s k h]
def PieceAll(f:UInt8→Bool) (s:ByteArray) (p k:Nat):Prop:=p≤k∧k≤s.size∧∀ c∈pieceL s p k,f c=true
theorem PieceAll.start{f:UInt8→Bool}(h:p≤s.size):PieceAll f s p p:=⟨Nat.le_refl _,h,fun c hc=>by simp [pieceL] at hc⟩
theorem PieceAll.on{f:UInt8→Bool}(H:PieceAll f s p k) (h:k<s.size) (hc:f (s[k]'h)=true):PieceAll f s p (k+1):=by
 refine⟨by have:=H.1;omega,by omega,fun c hm=>?_⟩;rw [piece_on H.1 h] at hm;rcases List.mem_append.1 hm with hm | hm
 · exact H.2.2 c hm
 · simp at hm;rw [hm];exact hc
theorem PieceAll.stop{f:UInt8→Bool}(H:PieceAll f s p k) (he:k=s.size∨∃ h:k<s.size,f (s[k]'h)=false):(s.data.toList.drop p).takeWhile f=pieceL s p k:=by
 refine tw_eq H.2.2 ?_;rcases he with rfl | ⟨h,hc⟩
 · exact .inl (List.take_of_length_le (by rw [List.length_drop,← Lib.size_eq];omega)).symm
 · refine .inr ⟨s[k]'h,s.data.toList.drop (k+1),?_,hc⟩
   have h2:(s.data.toList.drop p).drop (k-p)=s[k]'h::s.data.toList.drop (k+1):=by
    rw [List.drop_drop,show p+(k-p)=k by have:=H.1;omega,drop_at h]
   rw [← h2];exact(List.take_append_drop _ _).symm
theorem PieceAll.more{f:UInt8→Bool}(H:PieceAll f s p k):∃ r,(s.data.toList.drop p).takeWhile f=pieceL s p k++r:=
 tw_ge _ _ (by rw [List.length_drop,← Lib.size_eq];have:=H.2.1;omega) H.2.2
def NumTo(s:ByteArray) (p k v:Nat):Prop:=PieceAll (fun c=>digitB (c.toNat:Int)) s p k∧v=decV (pieceL s p k)∧v≤9223372036854775807∧(p+1<k→∀ h:p<s.size,¬ s[p]'h=48)
theorem NumTo.start(h:p≤s.size):NumTo s p p 0:=⟨PieceAll.start h,by simp [pieceL,decV],by omega,fun h=>absurd h (by omega)⟩
theorem NumTo.on(H:NumTo s p k v) (h:k<s.size) (hd:digitB ((s[k]'h).toNat:Int)=true) (hv:v*10+((s[k]'h).toNat-48)≤9223372036854775807) (h0:p<k→∀ h:p<s.size,¬ s[p]'h=48):
 NumTo s p (k+1) (v*10+((s[k]'h).toNat-48)):=
 ⟨H.1.on h hd,by rw [piece_on H.1.1 h,decV_snoc,← H.2.1],hv,fun hp=>h0 (by omega)⟩
theorem head_drop(h:p<s.size):(s.data.toList.drop p).head?=some (s[p]'h):=by rw [drop_at h];rfl
theorem NumTo.yes(H:NumTo s p k v) (hp:p<k) (he:k=s.size∨∃ h:k<s.size,digitB ((s[k]'h).toNat:Int)=false):
 numT (s.data.toList.drop p)=some (⟨3,pieceL s p k,(v:Int),0⟩,k-p):=by
 have hd:digL (s.data.toList.drop p)=pieceL s p k:=H.1.stop he;have hps:p<s.size:=by have:=H.1.2.1;omega
 have hl:=piece_len H.1.1 H.1.2.1;unfold numT;rw [hd,head_drop hps,hl,if_neg,H.2.1];rintro (⟨h1,h2⟩ | h1)
 · exact H.2.2.2 (by omega) hps (Option.some.inj h2)
 · rw [← H.2.1] at h1;have:=H.2.2.1;omega
end
end
section
open Go.RowKit Go.Sort
end
section
open Go.RowKit Go.Sort
section
variable {s:ByteArray}{p:Nat}
end
theorem Row4.thaw{T:TypeId}{W:World}{g:Nat}{t:Tk}(h:Row4 T W g t) (j:Nat):W.frozen? ⟨g,j,none⟩=false:=by
 unfold Row4 at h
 simp [World.frozen?,h]
theorem four_set{T:TypeId}{W:World}{g:Nat}{t:Tk}(h:Row4 T W g t) (u:Tk):
 (((W.setCell ⟨g,0,none⟩ (.int .i64 u.k)).setCell ⟨g,1,none⟩ (.string (ofL u.s))).setCell ⟨g,2,none⟩ (.int .i64 u.n)).setCell ⟨g,3,none⟩ (.int .i64 (u.a:Int))=W.setRow g (tkA u):=by
 unfold Row4 at h;rw [setCell_eq_setRow _ _ _ _ _ _ _ h];have h1:=setRow_heap _ _ _ ((tkA t).setIfInBounds 0 (.int .i64 u.k)) _ _ h;rw [setCell_eq_setRow _ _ _ _ _ _ _ h1,setRow_setRow];have h2:=setRow_heap _ _ _ (((tkA t).setIfInBounds 0 (.int .i64 u.k)).setIfInBounds 1 (.string (ofL u.s))) _ _ h;rw [setCell_eq_setRow _ _ _ _ _ _ _ h2,setRow_setRow];have h3:=setRow_heap _ _ _ ((((tkA t).setIfInBounds 0 (.int .i64 u.k)).setIfInBounds 1 (.string (ofL u.s))).setIfInBounds 2 (.int .i64 u.n)) _ _ h;rw [setCell_eq_setRow _ _ _ _ _ _ _ h3,setRow_setRow];rfl
end
end Go.Proofs.YtokiaaapgkdpmaaGreatDoor
