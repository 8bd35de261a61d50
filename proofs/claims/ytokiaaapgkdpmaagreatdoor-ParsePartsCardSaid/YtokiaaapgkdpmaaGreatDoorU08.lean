/- Parts of the proof: LxB, LxC, LxF. Conditions: each theorem's own. -/
import Derived.Test.YtokiaaapgkdpmaaGreatDoorU07
namespace Go.Proofs.YtokiaaapgkdpmaaGreatDoor
set_option linter.unusedVariables false
set_option linter.unusedSimpArgs false
set_option maxRecDepth 100000
set_option maxHeartbeats 40000000
section
open Go.RowKit Go.Sort
theorem lxName_low(s:ByteArray) (w:World) (hs:s.size≤9223372036854775806) (h1:lowB (nameL s.data.toList)=true):
 Calls Tryz.prog 80 #[.string s] w fun e w'=>e=.returned (tkR (nameT s.data.toList))∧Below w.heap.size w w':=by
 have hle:(nameL s.data.toList).length≤s.size:=by rw [Lib.size_eq];exact tw_le _
 have hx:s.extract 0 (nameL s.data.toList).length=ofL (nameL s.data.toList):=eq_ofL (by rw [ext_list];exact(tw_take _).symm);have HE:Hid (tkR (nameT s.data.toList)=.tuple #[tkV ⟨1,nameL s.data.toList,0,0⟩,.int .i64 ((nameL s.data.toList).length:Nat)]):=Hd (by simp [nameT,h1,tkR]);have HR:=Hd (lxRunName s);have HL:=Hd (idLow (ofL (nameL s.data.toList)));have HW:=Hd (idWord (ofL (nameL s.data.toList)));have HH:=Hd (idHigh (ofL (nameL s.data.toList)));rw [show(ofL (nameL s.data.toList)).data.toList=nameL s.data.toList from rfl] at HL HW HH;rw [h1] at HL;generalize nameL s.data.toList=l at *;have hl63:(ofL l).size≤9223372036854775807:=by rw [ofL_size];omega
 have HG0:Hid (Row4 41 (w.alloc (.cells #[.int .i64 0,.string ⟨#[]⟩,.int .i64 0,.int .i64 0] 41)) w.heap.size tk0):=Hd (Row4.new _ w tk0);have HB0:Hid (Below w.heap.size w (w.alloc (.cells #[.int .i64 0,.string ⟨#[]⟩,.int .i64 0,.int .i64 0] 41))):=Hd ((Below.refl _ _).alloc (Nat.le_refl _) _)
 go_enter Tryz.func80,Tryz.ntmps80
 go_wp2_with fail
 generalize (w.alloc (.cells #[.int .i64 0,.string ⟨#[]⟩,.int .i64 0,.int .i64 0] 41))=w1 at *;refine(HR.out w1 (by omega)).mono ?_;rintro e w' ⟨rfl,rfl⟩
 go_wp2_with fail
 refine(HL.out _ hl63).mono ?_;rintro e w2 ⟨rfl,hb⟩;have HG2:=Hd (HG0.out.below hb);have HB2:=Hd (HB0.out.trans (hb.mono HB0.out.size));clear hb
 go_wp2_with (refine wpList_store_row rfl _ _ _ rfl w.heap.size _ rfl rfl _ _ HG2.out tk_info rfl (by simp [Value.oneCell']) ?_)
 rw [HE.out];exact bodyPost_ret (res_tk2 (p:=2) (u:=3) rfl _ _ w.heap.size ⟨1,l,0,0⟩ rfl (HG2.out.set ⟨1,l,0,0⟩)) rfl ⟨rfl,below_setRow HB2.out (Nat.le_refl _) _⟩
theorem lxName_word(s:ByteArray) (w:World) (hs:s.size≤9223372036854775806) (h1:lowB (nameL s.data.toList)=false) (h2:wordB (nameL s.data.toList)=true):
 Calls Tryz.prog 80 #[.string s] w fun e w'=>e=.returned (tkR (nameT s.data.toList))∧Below w.heap.size w w':=by
 have hle:(nameL s.data.toList).length≤s.size:=by rw [Lib.size_eq];exact tw_le _
 have hx:s.extract 0 (nameL s.data.toList).length=ofL (nameL s.data.toList):=eq_ofL (by rw [ext_list];exact(tw_take _).symm);have HE:Hid (tkR (nameT s.data.toList)=.tuple #[tkV ⟨1,nameL s.data.toList,0,0⟩,.int .i64 ((nameL s.data.toList).length:Nat)]):=Hd (by simp [nameT,h1,h2,tkR]);have HR:=Hd (lxRunName s);have HL:=Hd (idLow (ofL (nameL s.data.toList)));have HW:=Hd (idWord (ofL (nameL s.data.toList)));have HH:=Hd (idHigh (ofL (nameL s.data.toList)));rw [show(ofL (nameL s.data.toList)).data.toList=nameL s.data.toList from rfl] at HL HW HH;rw [h1] at HL;rw [h2] at HW;generalize nameL s.data.toList=l at *;have hl63:(ofL l).size≤9223372036854775807:=by rw [ofL_size];omega
 have HG0:Hid (Row4 41 (w.alloc (.cells #[.int .i64 0,.string ⟨#[]⟩,.int .i64 0,.int .i64 0] 41)) w.heap.size tk0):=Hd (Row4.new _ w tk0);have HB0:Hid (Below w.heap.size w (w.alloc (.cells #[.int .i64 0,.string ⟨#[]⟩,.int .i64 0,.int .i64 0] 41))):=Hd ((Below.refl _ _).alloc (Nat.le_refl _) _)
 go_enter Tryz.func80,Tryz.ntmps80
 go_wp2_with fail
 generalize (w.alloc (.cells #[.int .i64 0,.string ⟨#[]⟩,.int .i64 0,.int .i64 0] 41))=w1 at *;refine(HR.out w1 (by omega)).mono ?_;rintro e w' ⟨rfl,rfl⟩
 go_wp2_with fail
 refine(HL.out _ hl63).mono ?_;rintro e w2 ⟨rfl,hb⟩;have HG2:=Hd (HG0.out.below hb);have HB2:=Hd (HB0.out.trans (hb.mono HB0.out.size));clear hb
 go_wp2_with fail
 refine(HW.out _).mono ?_;rintro e w' ⟨rfl,rfl⟩
 go_wp2_with (refine wpList_store_row rfl _ _ _ rfl w.heap.size _ rfl rfl _ _ HG2.out tk_info rfl (by simp [Value.oneCell']) ?_)
 rw [HE.out];exact bodyPost_ret (res_tk2 (p:=2) (u:=3) rfl _ _ w.heap.size ⟨1,l,0,0⟩ rfl (HG2.out.set ⟨1,l,0,0⟩)) rfl ⟨rfl,below_setRow HB2.out (Nat.le_refl _) _⟩
theorem lxName_high(s:ByteArray) (w:World) (hs:s.size≤9223372036854775806) (h1:lowB (nameL s.data.toList)=false) (h2:wordB (nameL s.data.toList)=false) (h3:highB (nameL s.data.toList)=true):
 Calls Tryz.prog 80 #[.string s] w fun e w'=>e=.returned (tkR (nameT s.data.toList))∧Below w.heap.size w w':=by
 have hle:(nameL s.data.toList).length≤s.size:=by rw [Lib.size_eq];exact tw_le _
 have hx:s.extract 0 (nameL s.data.toList).length=ofL (nameL s.data.toList):=eq_ofL (by rw [ext_list];exact(tw_take _).symm);have HE:Hid (tkR (nameT s.data.toList)=.tuple #[tkV ⟨2,nameL s.data.toList,0,0⟩,.int .i64 ((nameL s.data.toList).length:Nat)]):=Hd (by simp [nameT,h1,h2,h3,tkR]);have HR:=Hd (lxRunName s);have HL:=Hd (idLow (ofL (nameL s.data.toList)));have HW:=Hd (idWord (ofL (nameL s.data.toList)));have HH:=Hd (idHigh (ofL (nameL s.data.toList)));rw [show(ofL (nameL s.data.toList)).data.toList=nameL s.data.toList from rfl] at HL HW HH;rw [h1] at HL;rw [h2] at HW;rw [h3] at HH;generalize nameL s.data.toList=l at *;have hl63:(ofL l).size≤9223372036854775807:=by rw [ofL_size];omega
 have HG0:Hid (Row4 41 (w.alloc (.cells #[.int .i64 0,.string ⟨#[]⟩,.int .i64 0,.int .i64 0] 41)) w.heap.size tk0):=Hd (Row4.new _ w tk0);have HB0:Hid (Below w.heap.size w (w.alloc (.cells #[.int .i64 0,.string ⟨#[]⟩,.int .i64 0,.int .i64 0] 41))):=Hd ((Below.refl _ _).alloc (Nat.le_refl _) _)
 go_enter Tryz.func80,Tryz.ntmps80
 go_wp2_with fail
 generalize (w.alloc (.cells #[.int .i64 0,.string ⟨#[]⟩,.int .i64 0,.int .i64 0] 41))=w1 at *;refine(HR.out w1 (by omega)).mono ?_;rintro e w' ⟨rfl,rfl⟩
 go_wp2_with fail
 refine(HL.out _ hl63).mono ?_;rintro e w2 ⟨rfl,hb⟩;have HG2:=Hd (HG0.out.below hb);have HB2:=Hd (HB0.out.trans (hb.mono HB0.out.size));clear hb
 go_wp2_with fail
 refine(HW.out _).mono ?_;rintro e w' ⟨rfl,rfl⟩
 go_wp2_with fail
 refine(HH.out _ hl63).mono ?_;rintro e w3 ⟨rfl,hb⟩;have HG3:=Hd (HG2.out.below hb);have HB3:=Hd (HB2.out.trans (hb.mono HB2.out.size));clear hb
 go_wp2_with (refine wpList_store_row rfl _ _ _ rfl w.heap.size _ rfl rfl _ _ HG3.out tk_info rfl (by simp [Value.oneCell']) ?_)
 rw [HE.out];exact bodyPost_ret (res_tk2 (p:=2) (u:=3) rfl _ _ w.heap.size ⟨2,l,0,0⟩ rfl (HG3.out.set ⟨2,l,0,0⟩)) rfl ⟨rfl,below_setRow HB3.out (Nat.le_refl _) _⟩
theorem lxName_none(s:ByteArray) (w:World) (hs:s.size≤9223372036854775806) (h1:lowB (nameL s.data.toList)=false) (h2:wordB (nameL s.data.toList)=false) (h3:highB (nameL s.data.toList)=false):
 Calls Tryz.prog 80 #[.string s] w fun e w'=>e=.returned (tkR (nameT s.data.toList))∧Below w.heap.size w w':=by
 have hle:(nameL s.data.toList).length≤s.size:=by rw [Lib.size_eq];exact tw_le _
 have hx:s.extract 0 (nameL s.data.toList).length=ofL (nameL s.data.toList):=eq_ofL (by rw [ext_list];exact(tw_take _).symm);have HE:Hid (tkR (nameT s.data.toList)=.tuple #[tkV tk0,.int .i64 0]):=Hd (by simp [nameT,h1,h2,h3,tkR]);have HR:=Hd (lxRunName s);have HL:=Hd (idLow (ofL (nameL s.data.toList)));have HW:=Hd (idWord (ofL (nameL s.data.toList)));have HH:=Hd (idHigh (ofL (nameL s.data.toList)));rw [show(ofL (nameL s.data.toList)).data.toList=nameL s.data.toList from rfl] at HL HW HH;rw [h1] at HL;rw [h2] at HW;rw [h3] at HH;generalize nameL s.data.toList=l at *;have hl63:(ofL l).size≤9223372036854775807:=by rw [ofL_size];omega
 have HG0:Hid (Row4 41 (w.alloc (.cells #[.int .i64 0,.string ⟨#[]⟩,.int .i64 0,.int .i64 0] 41)) w.heap.size tk0):=Hd (Row4.new _ w tk0);have HB0:Hid (Below w.heap.size w (w.alloc (.cells #[.int .i64 0,.string ⟨#[]⟩,.int .i64 0,.int .i64 0] 41))):=Hd ((Below.refl _ _).alloc (Nat.le_refl _) _)
 go_enter Tryz.func80,Tryz.ntmps80
 go_wp2_with fail
 generalize (w.alloc (.cells #[.int .i64 0,.string ⟨#[]⟩,.int .i64 0,.int .i64 0] 41))=w1 at *;refine(HR.out w1 (by omega)).mono ?_;rintro e w' ⟨rfl,rfl⟩
 go_wp2_with fail
 refine(HL.out _ hl63).mono ?_;rintro e w2 ⟨rfl,hb⟩;have HG2:=Hd (HG0.out.below hb);have HB2:=Hd (HB0.out.trans (hb.mono HB0.out.size));clear hb
 go_wp2_with fail
 refine(HW.out _).mono ?_;rintro e w' ⟨rfl,rfl⟩
 go_wp2_with fail
 refine(HH.out _ hl63).mono ?_;rintro e w3 ⟨rfl,hb⟩;have HG3:=Hd (HG2.out.below hb);have HB3:=Hd (HB2.out.trans (hb.mono HB2.out.size));clear hb
 go_wp2_with (refine wpList_store_row rfl _ _ _ rfl w.heap.size _ rfl rfl _ _ HG3.out tk_info rfl (by simp [Value.oneCell']) ?_)
 rw [HE.out];exact bodyPost_ret (res_tk2 (p:=2) (u:=3) rfl _ _ w.heap.size tk0 rfl (HG3.out.set tk0)) rfl ⟨rfl,below_setRow HB3.out (Nat.le_refl _) _⟩
theorem lxName(s:ByteArray) (w:World) (hs:s.size≤9223372036854775806):
 Calls Tryz.prog 80 #[.string s] w fun e w'=>e=.returned (tkR (nameT s.data.toList))∧Below w.heap.size w w':=by
 cases h1:lowB (nameL s.data.toList) with
 | true=>exact lxName_low s w hs h1
 | false=>
  cases h2:wordB (nameL s.data.toList) with
  | true=>exact lxName_word s w hs h1 h2
  | false=>
   cases h3:highB (nameL s.data.toList) with
   | true=>exact lxName_high s w hs h1 h2 h3
   | false=>exact lxName_none s w hs h1 h2 h3
theorem dig_head{l:List UInt8}{c:UInt8}{r:List UInt8}(h:digL l=c::r):l.head?=some c:=by
 cases l with
 | nil=>simp [digL] at h
 | cons d l=>
  unfold digL at h;rw [List.takeWhile_cons] at h
  split at h
  · injection h with h _;rw [h];rfl
  · cases h
theorem lxNumber_big(s:ByteArray) (w:World) (hs:s.size≤281474976710656) (hv:Vars w) (c:UInt8) (r:List UInt8) (hd:digL s.data.toList=c::r) (hb:9223372036854775807<decV (c::r)) (h1:True) (h2:True):
 Calls Tryz.prog 82 #[.string s] w fun e w'=>e=.returned (tkR (numT s.data.toList))∧Below w.heap.size w w':=by
 have hle:(digL s.data.toList).length≤s.size:=by rw [Lib.size_eq];exact tw_le _
 have hx:s.extract 0 (digL s.data.toList).length=ofL (digL s.data.toList):=eq_ofL (by rw [ext_list];exact(tw_take _).symm);have hall:∀ c∈digL s.data.toList,digitB (c.toNat:Int)=true:=tw_all _;have hhead:=dig_head hd;have HE:Hid (tkR (numT s.data.toList)=.tuple #[tkV tk0,.int .i64 0]):=Hd (by rw [numT,hd,hhead,if_pos (.inr hb)];rfl);have HR:=Hd (lxRunDig s);rw [hd] at HR hx hle hall;have hx2:s.extract 0 (r.length+1)=ofL (c::r):=hx;clear hx;have hne:(ofL (c::r)).data.toList≠[]:=by rw [ofL_list];simp
 have hz0:(ofL (c::r)).size=r.length+1:=rfl;have hls:(ofL (c::r)).size≤281474976710656:=by rw [hz0];simp at hle;omega
 have h0s:0<(ofL (c::r)).size:=by rw [hz0];omega
 have HV:=Hd hv;clear hv;have HG0:Hid (Row4 41 (w.alloc (.cells #[.int .i64 0,.string ⟨#[]⟩,.int .i64 0,.int .i64 0] 41)) w.heap.size tk0):=Hd (Row4.new _ w tk0);have HB0:Hid (Below w.heap.size w (w.alloc (.cells #[.int .i64 0,.string ⟨#[]⟩,.int .i64 0,.int .i64 0] 41))):=Hd ((Below.refl _ _).alloc (Nat.le_refl _) _)
 go_enter Tryz.func82,Tryz.ntmps82
 go_wp2_with fail
 have HV1:=Hd (HV.out.below (HB0.out));generalize (w.alloc (.cells #[.int .i64 0,.string ⟨#[]⟩,.int .i64 0,.int .i64 0] 41))=w1 at *;clear HV;refine(HR.out w1 (by omega)).mono ?_;rintro e w' ⟨rfl,rfl⟩;have hlen:(((c::r).length:Nat):Int)=(r.length:Int)+1:=by simp
 go_wp2_with fail
 refine(libParse_no _ _ hne hall hls hb HV1.out).mono ?_;rintro e w2 ⟨⟨z,N,rfl⟩,hb2⟩;have HG2:=Hd (HG0.out.below hb2);have HB2:=Hd (HB0.out.trans (hb2.mono HB0.out.size));clear hb2 hb
 go_wp2_with (refine wpList_store_row rfl _ _ _ rfl w.heap.size _ rfl rfl _ _ HG2.out tk_info rfl (by simp [Value.oneCell']) ?_)
 rw [HE.out];exact bodyPost_ret (res_tk2 (p:=2) (u:=3) rfl _ _ w.heap.size tk0 rfl (HG2.out.set tk0)) rfl ⟨rfl,below_setRow HB2.out (Nat.le_refl _) _⟩
theorem lxNumber_nought(s:ByteArray) (w:World) (hs:s.size≤281474976710656) (hv:Vars w) (c:UInt8) (r:List UInt8) (hd:digL s.data.toList=c::r) (hb:decV (c::r)≤9223372036854775807) (h1:0<r.length) (h2:c=48):
 Calls Tryz.prog 82 #[.string s] w fun e w'=>e=.returned (tkR (numT s.data.toList))∧Below w.heap.size w w':=by
 have hle:(digL s.data.toList).length≤s.size:=by rw [Lib.size_eq];exact tw_le _
 have hx:s.extract 0 (digL s.data.toList).length=ofL (digL s.data.toList):=eq_ofL (by rw [ext_list];exact(tw_take _).symm);have hall:∀ c∈digL s.data.toList,digitB (c.toNat:Int)=true:=tw_all _;have hhead:=dig_head hd;have HE:Hid (tkR (numT s.data.toList)=.tuple #[tkV tk0,.int .i64 0]):=Hd (by rw [numT,hd,hhead,if_pos (.inl ⟨by simp;omega,by rw [h2]⟩)];rfl);have HR:=Hd (lxRunDig s);rw [hd] at HR hx hle hall;have hx2:s.extract 0 (r.length+1)=ofL (c::r):=hx;clear hx;have hne:(ofL (c::r)).data.toList≠[]:=by rw [ofL_list];simp
 have hz0:(ofL (c::r)).size=r.length+1:=rfl;have hls:(ofL (c::r)).size≤281474976710656:=by rw [hz0];simp at hle;omega
 have h0s:0<(ofL (c::r)).size:=by rw [hz0];omega
 have HV:=Hd hv;have hcc:((((ofL (c::r))[0]'h0s).toNat:Int)==48)=true:=by rw [h2];rfl
 have HCC:=Hd hcc;have HR1:=Hd h1;clear hcc h1 h2 hhead;clear hv;have HG0:Hid (Row4 41 (w.alloc (.cells #[.int .i64 0,.string ⟨#[]⟩,.int .i64 0,.int .i64 0] 41)) w.heap.size tk0):=Hd (Row4.new _ w tk0);have HB0:Hid (Below w.heap.size w (w.alloc (.cells #[.int .i64 0,.string ⟨#[]⟩,.int .i64 0,.int .i64 0] 41))):=Hd ((Below.refl _ _).alloc (Nat.le_refl _) _)
 go_enter Tryz.func82,Tryz.ntmps82
 go_wp2_with fail
 have HV1:=Hd (HV.out.below (HB0.out));generalize (w.alloc (.cells #[.int .i64 0,.string ⟨#[]⟩,.int .i64 0,.int .i64 0] 41))=w1 at *;clear HV;refine(HR.out w1 (by omega)).mono ?_;rintro e w' ⟨rfl,rfl⟩;have hlen:(((c::r).length:Nat):Int)=(r.length:Int)+1:=by simp
 go_wp2_with fail
 refine(libParse_yes _ _ hne hall hls hb).mono ?_;rintro e w2 ⟨rfl,hb2⟩;have HG2:=Hd (HG0.out.below hb2);have HB2:=Hd (HB0.out.trans (hb2.mono HB0.out.size));clear hb2 hb HV1;have hr:=HR1.out;have hcc:=HCC.out;clear hall;rw [ofL_list]
 go_wp2_with (refine wpList_store_row rfl _ _ _ rfl w.heap.size _ rfl rfl _ _ HG2.out tk_info rfl (by simp [Value.oneCell']) ?_)
 rw [HE.out];exact bodyPost_ret (res_tk2 (p:=2) (u:=3) rfl _ _ w.heap.size tk0 rfl (HG2.out.set tk0)) rfl ⟨rfl,below_setRow HB2.out (Nat.le_refl _) _⟩
theorem lxNumber_one(s:ByteArray) (w:World) (hs:s.size≤281474976710656) (hv:Vars w) (c:UInt8) (hd:digL s.data.toList=[c]) (hb:decV [c]≤9223372036854775807):
 Calls Tryz.prog 82 #[.string s] w fun e w'=>e=.returned (tkR (numT s.data.toList))∧Below w.heap.size w w':=by
 have hle:(digL s.data.toList).length≤s.size:=by rw [Lib.size_eq];exact tw_le _
 have hx:s.extract 0 (digL s.data.toList).length=ofL (digL s.data.toList):=eq_ofL (by rw [ext_list];exact(tw_take _).symm);have hall:∀ c∈digL s.data.toList,digitB (c.toNat:Int)=true:=tw_all _;have hhead:=dig_head hd;have HE:Hid (tkR (numT s.data.toList)=.tuple #[tkV ⟨3,[c],(decV [c]:Int),0⟩,.int .i64 1]):=Hd (by rw [numT,hd,hhead,if_neg (fun h=>by rcases h with⟨a,_⟩ | b;simp at a;omega)];rfl);have HR:=Hd (lxRunDig s);rw [hd] at HR hx hle hall;have hx2:s.extract 0 1=ofL ([c]):=hx;clear hx;have hne:(ofL ([c])).data.toList≠[]:=by rw [ofL_list];simp
 have hz0:(ofL ([c])).size=1:=rfl;have hls:(ofL ([c])).size≤281474976710656:=by rw [hz0];simp at hle;omega
 have h0s:0<(ofL ([c])).size:=by rw [hz0];omega
 have hle1:1≤s.size:=hle;have HV:=Hd hv;clear hv;have HG0:Hid (Row4 41 (w.alloc (.cells #[.int .i64 0,.string ⟨#[]⟩,.int .i64 0,.int .i64 0] 41)) w.heap.size tk0):=Hd (Row4.new _ w tk0);have HB0:Hid (Below w.heap.size w (w.alloc (.cells #[.int .i64 0,.string ⟨#[]⟩,.int .i64 0,.int .i64 0] 41))):=Hd ((Below.refl _ _).alloc (Nat.le_refl _) _)
 go_enter Tryz.func82,Tryz.ntmps82
 go_wp2_with fail
 have HV1:=Hd (HV.out.below (HB0.out));generalize (w.alloc (.cells #[.int .i64 0,.string ⟨#[]⟩,.int .i64 0,.int .i64 0] 41))=w1 at *;clear HV;refine(HR.out w1 (by omega)).mono ?_;rintro e w' ⟨rfl,rfl⟩
 go_wp2_with fail
 refine(libParse_yes _ _ hne hall hls hb).mono ?_;rintro e w2 ⟨rfl,hb2⟩;have HG2:=Hd (HG0.out.below hb2);have HB2:=Hd (HB0.out.trans (hb2.mono HB0.out.size));clear hb2 hb HV1;clear hall;rw [ofL_list]
 go_wp2_with (refine wpList_store_row rfl _ _ _ rfl w.heap.size _ rfl rfl _ _ HG2.out tk_info rfl (by simp [Value.oneCell']) ?_)
 rw [HE.out];exact bodyPost_ret (res_tk2 (p:=2) (u:=3) rfl _ _ w.heap.size ⟨3,[c],(decV [c]:Int),0⟩ rfl (HG2.out.set ⟨3,[c],(decV [c]:Int),0⟩)) rfl ⟨rfl,below_setRow HB2.out (Nat.le_refl _) _⟩
theorem lxNumber_more(s:ByteArray) (w:World) (hs:s.size≤281474976710656) (hv:Vars w) (c:UInt8) (r:List UInt8) (hd:digL s.data.toList=c::r) (hb:decV (c::r)≤9223372036854775807) (h1:0<r.length) (h2:¬ c=48):
 Calls Tryz.prog 82 #[.string s] w fun e w'=>e=.returned (tkR (numT s.data.toList))∧Below w.heap.size w w':=by
 have hle:(digL s.data.toList).length≤s.size:=by rw [Lib.size_eq];exact tw_le _
 have hx:s.extract 0 (digL s.data.toList).length=ofL (digL s.data.toList):=eq_ofL (by rw [ext_list];exact(tw_take _).symm);have hall:∀ c∈digL s.data.toList,digitB (c.toNat:Int)=true:=tw_all _;have hhead:=dig_head hd;have HE:Hid (tkR (numT s.data.toList)=.tuple #[tkV ⟨3,c::r,(decV (c::r):Int),0⟩,.int .i64 ((r.length:Int)+1)]):=Hd (by rw [numT,hd,hhead,if_neg (fun h=>by rcases h with⟨_,b⟩ | b;exact h2 (Option.some.inj b);omega)];rfl);have HR:=Hd (lxRunDig s);rw [hd] at HR hx hle hall;have hx2:s.extract 0 (r.length+1)=ofL (c::r):=hx;clear hx;have hne:(ofL (c::r)).data.toList≠[]:=by rw [ofL_list];simp
 have hz0:(ofL (c::r)).size=r.length+1:=rfl;have hls:(ofL (c::r)).size≤281474976710656:=by rw [hz0];simp at hle;omega
 have h0s:0<(ofL (c::r)).size:=by rw [hz0];omega
 have HV:=Hd hv
 have hcc:((((ofL (c::r))[0]'h0s).toNat:Int)==48)=false:=by
  have:(ofL (c::r))[0]'h0s=c:=rfl;rw [this];have h3:¬ c.toNat=48:=fun e=>h2 (UInt8.toNat_inj.1 e)
  simp;omega
 have HCC:=Hd hcc;have HR1:=Hd h1;clear hcc h1 h2 hhead;clear hv;have HG0:Hid (Row4 41 (w.alloc (.cells #[.int .i64 0,.string ⟨#[]⟩,.int .i64 0,.int .i64 0] 41)) w.heap.size tk0):=Hd (Row4.new _ w tk0);have HB0:Hid (Below w.heap.size w (w.alloc (.cells #[.int .i64 0,.string ⟨#[]⟩,.int .i64 0,.int .i64 0] 41))):=Hd ((Below.refl _ _).alloc (Nat.le_refl _) _)
 go_enter Tryz.func82,Tryz.ntmps82
 go_wp2_with fail
 have HV1:=Hd (HV.out.below (HB0.out));generalize (w.alloc (.cells #[.int .i64 0,.string ⟨#[]⟩,.int .i64 0,.int .i64 0] 41))=w1 at *;clear HV;refine(HR.out w1 (by omega)).mono ?_;rintro e w' ⟨rfl,rfl⟩;have hlen:(((c::r).length:Nat):Int)=(r.length:Int)+1:=by simp
 go_wp2_with fail
 refine(libParse_yes _ _ hne hall hls hb).mono ?_;rintro e w2 ⟨rfl,hb2⟩;have HG2:=Hd (HG0.out.below hb2);have HB2:=Hd (HB0.out.trans (hb2.mono HB0.out.size));clear hb2 hb HV1;have hr:=HR1.out;have hcc:=HCC.out;clear hall;rw [ofL_list]
 go_wp2_with (refine wpList_store_row rfl _ _ _ rfl w.heap.size _ rfl rfl _ _ HG2.out tk_info rfl (by simp [Value.oneCell']) ?_)
 rw [HE.out];exact bodyPost_ret (res_tk2 (p:=2) (u:=3) rfl _ _ w.heap.size ⟨3,c::r,(decV (c::r):Int),0⟩ rfl (HG2.out.set ⟨3,c::r,(decV (c::r):Int),0⟩)) rfl ⟨rfl,below_setRow HB2.out (Nat.le_refl _) _⟩
theorem lxNumber(s:ByteArray) (w:World) (hs:s.size≤281474976710656) (hv:Vars w) (h0:digL s.data.toList≠[]):
 Calls Tryz.prog 82 #[.string s] w fun e w'=>e=.returned (tkR (numT s.data.toList))∧Below w.heap.size w w':=by
 cases hd:digL s.data.toList with
 | nil=>exact absurd hd h0
 | cons c r=>
  by_cases hb:9223372036854775807<decV (c::r)
  · exact lxNumber_big s w hs hv c r hd hb trivial trivial
  · by_cases h1:0<r.length
    · by_cases h2:c=48
      · exact lxNumber_nought s w hs hv c r hd (by omega) h1 h2
      · exact lxNumber_more s w hs hv c r hd (by omega) h1 h2
    · obtain rfl:r=[]:=List.eq_nil_of_length_eq_zero (by omega);exact lxNumber_one s w hs hv c hd (by omega)
theorem cut_quot{l a b:List UInt8}{f:Bool}(hc:(39:UInt8)∉a) (hf:f=false→l=a) (ht:f=true→l=a++39::b):quotL l=a∧(decide (a.length<l.length)=f):=by
 have ha:∀ c∈a,(fun c:UInt8=>c != 39) c=true:=fun c h=>by
  have:c≠39:=fun e=>hc (e ▸ h)
  simpa using this
 cases f with
 | false=>exact⟨tw_eq ha (.inl (hf rfl)),by rw [hf rfl];simp⟩
 | true=>exact⟨tw_eq ha (.inr ⟨39,b,ht rfl,by decide⟩),by rw [ht rfl];simp⟩
theorem ext_drop(s:ByteArray):(s.extract 1 s.size).data.toList=s.data.toList.drop 1:=by
 rw [Lib.extract_data,List.take_of_length_le (by rw [Lib.size_eq];simp)]
theorem lxPath(s:ByteArray) (w:World) (hs:s.size≤281474976710656) (h1:1≤s.size):
 Calls Tryz.prog 83 #[.string s] w fun e w'=>e=.returned (tkR (pathT (s.data.toList.drop 1)))∧Below w.heap.size w w':=by
 have hsz:(s.extract 1 s.size).size≤s.size:=by rw [Lib.size_eq,ext_drop,List.length_drop,Lib.size_eq];omega
 have HX:=Hd (ext_drop s);have HG0:Hid (Row4 41 (w.alloc (.cells #[.int .i64 0,.string ⟨#[]⟩,.int .i64 0,.int .i64 0] 41)) w.heap.size tk0):=Hd (Row4.new _ w tk0);have HB0:Hid (Below w.heap.size w (w.alloc (.cells #[.int .i64 0,.string ⟨#[]⟩,.int .i64 0,.int .i64 0] 41))):=Hd ((Below.refl _ _).alloc (Nat.le_refl _) _)
 go_enter Tryz.func83,Tryz.ntmps83
 go_wp2_with fail
 generalize (w.alloc (.cells #[.int .i64 0,.string ⟨#[]⟩,.int .i64 0,.int .i64 0] 41))=w1 at *;refine(strCut (s.extract 1 s.size) 39 _ (by omega)).mono ?_;rintro e w2 ⟨a,b,f,rfl,hb,hc,hf,ht⟩;rw [HX.out] at hf ht
 have hasz:a.size≤s.size:=by
  have h3:s.data.toList.length=s.size:=(Lib.size_eq s).symm;have h4:(s.data.toList.drop 1).length=s.size-1:=by rw [List.length_drop,h3]
  rw [Lib.size_eq]
  cases f with
  | false=>rw [← hf rfl];omega
  | true=>have:=congrArg List.length (ht rfl);simp only [List.length_append,List.length_cons] at this;omega
 obtain⟨q1,q2⟩:=cut_quot hc hf ht;have HG2:=Hd (HG0.out.below hb);have HB2:=Hd (HB0.out.trans (hb.mono HB0.out.size));clear hb hc hf ht hsz
 cases f with
 | false=>
  have HE:Hid (tkR (pathT (s.data.toList.drop 1))=.tuple #[tkV tk0,.int .i64 0]):=Hd (by rw [pathT,q1,if_neg (fun h=>of_decide_eq_false q2 h.1)];rfl);clear q1 q2 HX
  go_wp2_with (refine wpList_store_row rfl _ _ _ rfl w.heap.size _ rfl rfl _ _ HG2.out tk_info rfl (by simp [Value.oneCell']) ?_)
  rw [HE.out];exact bodyPost_ret (res_tk2 (p:=2) (u:=3) rfl _ _ w.heap.size tk0 rfl (HG2.out.set tk0)) rfl ⟨rfl,below_setRow HB2.out (Nat.le_refl _) _⟩
 | true=>
  cases hp:pathB a.data.toList with
  | false=>
   have HE:Hid (tkR (pathT (s.data.toList.drop 1))=.tuple #[tkV tk0,.int .i64 0]):=Hd (by rw [pathT,q1,if_neg (fun h=>by rw [hp] at h;exact absurd h.2 (by simp))];rfl);clear q1 q2 HX;have HP:=Hd (idPath a);rw [hp] at HP;clear hp
   go_wp2_with fail
   refine(HP.out _ (by omega)).mono ?_;rintro e w3 ⟨rfl,hb⟩;have HG3:=Hd (HG2.out.below hb);have HB3:=Hd (HB2.out.trans (hb.mono HB2.out.size));clear hb
   go_wp2_with (refine wpList_store_row rfl _ _ _ rfl w.heap.size _ rfl rfl _ _ HG3.out tk_info rfl (by simp [Value.oneCell']) ?_)
   rw [HE.out];exact bodyPost_ret (res_tk2 (p:=2) (u:=3) rfl _ _ w.heap.size tk0 rfl (HG3.out.set tk0)) rfl ⟨rfl,below_setRow HB3.out (Nat.le_refl _) _⟩
  | true=>
   have HE:Hid (tkR (pathT (s.data.toList.drop 1))=.tuple #[tkV ⟨4,a.data.toList,0,0⟩,.int .i64 (1+(a.size:Int)+1)]):=Hd (by
    have hz:((a.data.toList.length+2:Nat):Int)=1+(a.size:Int)+1:=by rw [Lib.size_eq];omega
    rw [pathT,q1,if_pos ⟨of_decide_eq_true q2,hp⟩]
    show Value.tuple #[_,.int .i64 ((a.data.toList.length+2:Nat):Int)]=_
    rw [hz])
   clear q1 q2 HX;have HP:=Hd (idPath a);rw [hp] at HP;clear hp
   go_wp2_with fail
   refine(HP.out _ (by omega)).mono ?_;rintro e w3 ⟨rfl,hb⟩;have HG3:=Hd (HG2.out.below hb);have HB3:=Hd (HB2.out.trans (hb.mono HB2.out.size));clear hb
   go_wp2_with (refine wpList_store_row rfl _ _ _ rfl w.heap.size _ rfl rfl _ _ HG3.out tk_info rfl (by simp [Value.oneCell']) ?_)
   rw [HE.out];exact bodyPost_ret (res_tk2 (p:=2) (u:=3) rfl _ _ w.heap.size ⟨4,a.data.toList,0,0⟩ rfl (HG3.out.set ⟨4,a.data.toList,0,0⟩)) rfl ⟨rfl,below_setRow HB3.out (Nat.le_refl _) _⟩
end
section
open Go.RowKit Go.Sort
theorem marks_info:(Tryz.prog.info? 112).map (·.size)=some marksA.size:=by kernel_rfl
theorem mark_at(k:Nat) (h:k<21):∃ m:List UInt8,marksA[k]?=some (.string (ofL m))∧marksL.drop k=m::marksL.drop (k+1)∧m.length≤2:=by
 have h2:k<marksL.length:=h;have h3:∀ m∈marksL,m.length≤2:=by decide
 refine⟨marksL[k]'h2,?_,List.drop_eq_getElem_cons h2,h3 _ (List.getElem_mem _)⟩
 simp [marksA,List.getElem?_eq_getElem h2]
theorem idx_marks(ms:Array Value) (k:Nat) (h:k<21) (x:ByteArray) (hx:ms[k]?=some (.string x)) (W:World):
 (Instr.index 112 (.agg ms) (.int .i64 (k:Int))).run Tryz.prog W=.ok (.string x) W:=by
 simp [Instr.index,run_underlying Tryz.underlying112,asIntOf,h,hx,go_sem]
theorem lxMark(s:ByteArray) (w:World) (hs:s.size≤281474976710656) (hv:Vars w):
 Calls Tryz.prog 84 #[.string s] w fun e w'=>e=.returned (tkR (markT s.data.toList))∧Below w.heap.size w w':=by
 have HG0:Hid (Row4 41 (w.alloc (.cells #[.int .i64 0,.string ⟨#[]⟩,.int .i64 0,.int .i64 0] 41)) w.heap.size tk0):=Hd (Row4.new _ w tk0);have HB0:Hid (Below w.heap.size w (w.alloc (.cells #[.int .i64 0,.string ⟨#[]⟩,.int .i64 0,.int .i64 0] 41))):=Hd ((Below.refl _ _).alloc (Nat.le_refl _) _);obtain⟨T,fr,hm⟩:=(hv.below HB0.out).marks;have HM:=Hd hm;clear hm hv
 go_enter Tryz.func84,Tryz.ntmps84
 go_upto_region 1 with(fail)
 generalize (w.alloc (.cells #[.int .i64 0,.string ⟨#[]⟩,.int .i64 0,.int .i64 0] 41))=w1 at *
 go_wp2_with (refine wpList_load_row rfl _ _ rfl (0:Nat) rfl T _ fr _ HM.out Tryz.underlying112 rfl marks_info ?_)
 clear HM;have hsz:marksA.size=21:=rfl;have HMA:=Hd mark_at;generalize marksA=ms at *
 go_loop [7] (fun i=>∃ k:Nat,k≤21∧i=.int .i64 k∧markL s.data.toList=(marksL.drop k).find? fun m=>m.isPrefixOf s.data.toList) (fun i=>21-(intOf i).toNat)
 case atStart=>exact⟨0,by omega,rfl,rfl⟩
 case round=>
  obtain⟨k,hk,rfl,hrel⟩:=hrel;have HR:=Hd hrel;clear hrel
  by_cases hlt:k<21
  · obtain⟨m,hm,hml,hms⟩:=HMA.out k hlt;have HML:=Hd hml;clear hml;have hix:=idx_marks ms k hlt (ofL m) hm;clear hm;have hm2:(ofL m).size=m.length:=ofL_size m
    by_cases hp:m.isPrefixOf s.data.toList=true
    · have HE:Hid (tkR (markT s.data.toList)=.tuple #[tkV ⟨5,m,0,0⟩,.int .i64 (m.length:Nat)]):=Hd (by
       rw [markT,HR.out,HML.out,List.find?_cons_of_pos (by exact hp)];rfl)
      have HC:=Hd (libPrefix s (ofL m) w1);rw [ofL_list,hp] at HC;clear hp
      go_wp2_with fail
      refine HC.out.mono ?_;rintro e w' ⟨rfl,rfl⟩
      go_wp2_with (refine wpList_store_row rfl _ _ _ rfl w.heap.size _ rfl rfl _ _ HG0.out tk_info rfl (by simp [Value.oneCell']) ?_)
      rw [HE.out];exact bodyPost_ret (res_tk2 (p:=2) (u:=3) rfl _ _ w.heap.size ⟨5,m,0,0⟩ rfl (HG0.out.set ⟨5,m,0,0⟩)) rfl ⟨rfl,below_setRow HB0.out (Nat.le_refl _) _⟩
    · have hp:m.isPrefixOf s.data.toList=false:=Bool.eq_false_iff.2 hp
      have HE:=Hd (show markL s.data.toList=(marksL.drop (k+1)).find? fun m=>m.isPrefixOf s.data.toList by
       rw [HR.out,HML.out,List.find?_cons_of_neg (by show ¬ m.isPrefixOf s.data.toList=true;rw [hp];simp)])
      have HC:=Hd (libPrefix s (ofL m) w1);rw [ofL_list,hp] at HC;clear hp
      go_wp2_with fail
      refine HC.out.mono ?_;rintro e w' ⟨rfl,rfl⟩
      go_wp2_with fail
      go_round
      case rel=>exact⟨k+1,by omega,by go_num,HE.out⟩
      case measure=>simp [intOf];omega
  · obtain rfl:k=21:=by omega
    have HE:Hid (tkR (markT s.data.toList)=.tuple #[tkV tk0,.int .i64 0]):=Hd (by rw [markT,HR.out];rfl)
    go_wp2_with (refine wpList_store_row rfl _ _ _ rfl w.heap.size _ rfl rfl _ _ HG0.out tk_info rfl (by simp [Value.oneCell']) ?_)
    rw [HE.out];exact bodyPost_ret (res_tk2 (p:=2) (u:=3) rfl _ _ w.heap.size tk0 rfl (HG0.out.set tk0)) rfl ⟨rfl,below_setRow HB0.out (Nat.le_refl _) _⟩
end
section
open Go.RowKit Go.Sort
theorem ext_one{s:ByteArray}(h0:0<s.size):(s.extract 0 1).toList=[s[0]'h0]:=by
 obtain⟨F,hl⟩:=head_at h0;rw [Lib.toList_data,ext_list,hl];rfl
theorem lxFirst_name(s:ByteArray) (w:World) (hs:s.size≤281474976710656) (hv:Vars w) (h0:0<s.size) (h1:letB ((s[0]'h0).toNat:Int)=true):
 Calls Tryz.prog 40 #[.string s] w fun e w'=>e=.returned (tkR (tokL s.data.toList))∧Below w.heap.size w w':=by
 obtain⟨F,hl⟩:=head_at h0;have HT:Hid (tokL s.data.toList=nameT s.data.toList):=Hd (by rw [hl,tok_cons,if_pos h1]);have h01:1≤s.size:=h0;have HV:=Hd hv;clear hv hl;rw [HT.out];have HC:Hid (∀ w,Vars w→Calls Tryz.prog 80 #[.string s] w fun e w'=>e=.returned (tkR (nameT s.data.toList))∧Below w.heap.size w w'):=Hd (fun w hv=>lxName s w (by omega));generalize nameT s.data.toList=o at HC ⊢;clear HT
 cases o with
 | none=>
  simp only [tkR,tkV,tkA,tk0] at HC ⊢;have HG0:Hid (Row4 41 (w.alloc (.cells #[.int .i64 0,.string ⟨#[]⟩,.int .i64 0,.int .i64 0] 41)) w.heap.size tk0):=Hd (Row4.new _ w tk0);have HB0:Hid (Below w.heap.size w (w.alloc (.cells #[.int .i64 0,.string ⟨#[]⟩,.int .i64 0,.int .i64 0] 41))):=Hd ((Below.refl _ _).alloc (Nat.le_refl _) _)
  go_enter Tryz.func40,Tryz.ntmps40
  go_upto_region 1 with(fail)
  have HV1:=Hd (HV.out.below HB0.out);generalize (w.alloc (.cells #[.int .i64 0,.string ⟨#[]⟩,.int .i64 0,.int .i64 0] 41))=w1 at *;clear HV
  go_wp2_with fail
  refine(lxLetter _ _).mono ?_;rw [h1];rintro e w' ⟨rfl,rfl⟩
  go_wp2_with fail
  refine(HC.out _ HV1.out).mono ?_;rintro e w2 ⟨rfl,hb⟩;have HG2:=Hd (HG0.out.below hb);have HB2:=Hd (HB0.out.trans (hb.mono HB0.out.size));clear hb HV1 HC
  go_wp2_with (refine wpList_store_row rfl _ _ _ rfl w.heap.size _ rfl rfl _ _ HG2.out tk_info rfl (by simp [Value.oneCell']) ?_)
  exact bodyPost_ret (res_tk2 (p:=2) (u:=3) rfl _ _ w.heap.size tk0 rfl (HG2.out.set tk0)) rfl ⟨rfl,below_setRow HB2.out (Nat.le_refl _) _⟩
 | some x=>
  obtain⟨t,z⟩:=x;simp only [tkR,tkV,tkA] at HC ⊢;have HG0:Hid (Row4 41 (w.alloc (.cells #[.int .i64 0,.string ⟨#[]⟩,.int .i64 0,.int .i64 0] 41)) w.heap.size tk0):=Hd (Row4.new _ w tk0);have HB0:Hid (Below w.heap.size w (w.alloc (.cells #[.int .i64 0,.string ⟨#[]⟩,.int .i64 0,.int .i64 0] 41))):=Hd ((Below.refl _ _).alloc (Nat.le_refl _) _)
  go_enter Tryz.func40,Tryz.ntmps40
  go_upto_region 1 with(fail)
  have HV1:=Hd (HV.out.below HB0.out);generalize (w.alloc (.cells #[.int .i64 0,.string ⟨#[]⟩,.int .i64 0,.int .i64 0] 41))=w1 at *;clear HV
  go_wp2_with fail
  refine(lxLetter _ _).mono ?_;rw [h1];rintro e w' ⟨rfl,rfl⟩
  go_wp2_with fail
  refine(HC.out _ HV1.out).mono ?_;rintro e w2 ⟨rfl,hb⟩;have HG2:=Hd (HG0.out.below hb);have HB2:=Hd (HB0.out.trans (hb.mono HB0.out.size));clear hb HV1 HC
  go_wp2_with (refine wpList_store_row rfl _ _ _ rfl w.heap.size _ rfl rfl _ _ HG2.out tk_info rfl (by simp [Value.oneCell']) ?_)
  exact bodyPost_ret (res_tk2 (p:=2) (u:=3) rfl _ _ w.heap.size t rfl (HG2.out.set t)) rfl ⟨rfl,below_setRow HB2.out (Nat.le_refl _) _⟩
theorem lxFirst_number(s:ByteArray) (w:World) (hs:s.size≤281474976710656) (hv:Vars w) (h0:0<s.size) (h1:letB ((s[0]'h0).toNat:Int)=false) (h2:digitB ((s[0]'h0).toNat:Int)=true):
 Calls Tryz.prog 40 #[.string s] w fun e w'=>e=.returned (tkR (tokL s.data.toList))∧Below w.heap.size w w':=by
 obtain⟨F,hl⟩:=head_at h0;have HT:Hid (tokL s.data.toList=numT s.data.toList):=Hd (by rw [hl,tok_cons,if_neg (by rw [h1];simp),if_pos h2]);have h01:1≤s.size:=h0;have HD:Hid (digL s.data.toList≠[]):=Hd (fun e=>by have:=tw_pos (p:=fun c=>digitB (c.toNat:Int)) (l:=F) h2;rw [← hl] at this;unfold digL at e;rw [e] at this;exact absurd this (by simp));have HV:=Hd hv;clear hv hl;rw [HT.out];have HC:Hid (∀ w,Vars w→Calls Tryz.prog 82 #[.string s] w fun e w'=>e=.returned (tkR (numT s.data.toList))∧Below w.heap.size w w'):=Hd (fun w hv=>lxNumber s w hs hv HD.out);generalize numT s.data.toList=o at HC ⊢;clear HT HD
 cases o with
 | none=>
  simp only [tkR,tkV,tkA,tk0] at HC ⊢;have HG0:Hid (Row4 41 (w.alloc (.cells #[.int .i64 0,.string ⟨#[]⟩,.int .i64 0,.int .i64 0] 41)) w.heap.size tk0):=Hd (Row4.new _ w tk0);have HB0:Hid (Below w.heap.size w (w.alloc (.cells #[.int .i64 0,.string ⟨#[]⟩,.int .i64 0,.int .i64 0] 41))):=Hd ((Below.refl _ _).alloc (Nat.le_refl _) _)
  go_enter Tryz.func40,Tryz.ntmps40
  go_upto_region 1 with(fail)
  have HV1:=Hd (HV.out.below HB0.out);generalize (w.alloc (.cells #[.int .i64 0,.string ⟨#[]⟩,.int .i64 0,.int .i64 0] 41))=w1 at *;clear HV
  go_wp2_with fail
  refine(lxLetter _ _).mono ?_;rw [h1];rintro e w' ⟨rfl,rfl⟩
  go_wp2_with fail
  refine(lxDigit _ _).mono ?_;rw [h2];rintro e w' ⟨rfl,rfl⟩
  go_wp2_with fail
  refine(HC.out _ HV1.out).mono ?_;rintro e w2 ⟨rfl,hb⟩;have HG2:=Hd (HG0.out.below hb);have HB2:=Hd (HB0.out.trans (hb.mono HB0.out.size));clear hb HV1 HC
  go_wp2_with (refine wpList_store_row rfl _ _ _ rfl w.heap.size _ rfl rfl _ _ HG2.out tk_info rfl (by simp [Value.oneCell']) ?_)
  exact bodyPost_ret (res_tk2 (p:=2) (u:=3) rfl _ _ w.heap.size tk0 rfl (HG2.out.set tk0)) rfl ⟨rfl,below_setRow HB2.out (Nat.le_refl _) _⟩
 | some x=>
  obtain⟨t,z⟩:=x;simp only [tkR,tkV,tkA] at HC ⊢;have HG0:Hid (Row4 41 (w.alloc (.cells #[.int .i64 0,.string ⟨#[]⟩,.int .i64 0,.int .i64 0] 41)) w.heap.size tk0):=Hd (Row4.new _ w tk0);have HB0:Hid (Below w.heap.size w (w.alloc (.cells #[.int .i64 0,.string ⟨#[]⟩,.int .i64 0,.int .i64 0] 41))):=Hd ((Below.refl _ _).alloc (Nat.le_refl _) _)
  go_enter Tryz.func40,Tryz.ntmps40
  go_upto_region 1 with(fail)
  have HV1:=Hd (HV.out.below HB0.out);generalize (w.alloc (.cells #[.int .i64 0,.string ⟨#[]⟩,.int .i64 0,.int .i64 0] 41))=w1 at *;clear HV
  go_wp2_with fail
  refine(lxLetter _ _).mono ?_;rw [h1];rintro e w' ⟨rfl,rfl⟩
  go_wp2_with fail
  refine(lxDigit _ _).mono ?_;rw [h2];rintro e w' ⟨rfl,rfl⟩
  go_wp2_with fail
  refine(HC.out _ HV1.out).mono ?_;rintro e w2 ⟨rfl,hb⟩;have HG2:=Hd (HG0.out.below hb);have HB2:=Hd (HB0.out.trans (hb.mono HB0.out.size));clear hb HV1 HC
  go_wp2_with (refine wpList_store_row rfl _ _ _ rfl w.heap.size _ rfl rfl _ _ HG2.out tk_info rfl (by simp [Value.oneCell']) ?_)
  exact bodyPost_ret (res_tk2 (p:=2) (u:=3) rfl _ _ w.heap.size t rfl (HG2.out.set t)) rfl ⟨rfl,below_setRow HB2.out (Nat.le_refl _) _⟩
theorem lxFirst_path(s:ByteArray) (w:World) (hs:s.size≤281474976710656) (hv:Vars w) (h0:0<s.size) (h1:letB ((s[0]'h0).toNat:Int)=false) (h2:digitB ((s[0]'h0).toNat:Int)=false) (h3:s[0]'h0=39):
 Calls Tryz.prog 40 #[.string s] w fun e w'=>e=.returned (tkR (tokL s.data.toList))∧Below w.heap.size w w':=by
 obtain⟨F,hl⟩:=head_at h0;have HT:Hid (tokL s.data.toList=pathT (s.data.toList.drop 1)):=Hd (by rw [hl,tok_cons,if_neg (by rw [h1];simp),if_neg (by rw [h2];simp),if_pos h3];rfl);have h01:1≤s.size:=h0;have hq:((s.extract 0 1).toList==[39])=true:=by rw [ext_one h0];simpa using h3
 clear h3;have HV:=Hd hv;clear hv hl;rw [HT.out];have HC:Hid (∀ w,Vars w→Calls Tryz.prog 83 #[.string s] w fun e w'=>e=.returned (tkR (pathT (s.data.toList.drop 1)))∧Below w.heap.size w w'):=Hd (fun w hv=>lxPath s w hs h0);generalize pathT (s.data.toList.drop 1)=o at HC ⊢;clear HT
 cases o with
 | none=>
  simp only [tkR,tkV,tkA,tk0] at HC ⊢;have HG0:Hid (Row4 41 (w.alloc (.cells #[.int .i64 0,.string ⟨#[]⟩,.int .i64 0,.int .i64 0] 41)) w.heap.size tk0):=Hd (Row4.new _ w tk0);have HB0:Hid (Below w.heap.size w (w.alloc (.cells #[.int .i64 0,.string ⟨#[]⟩,.int .i64 0,.int .i64 0] 41))):=Hd ((Below.refl _ _).alloc (Nat.le_refl _) _)
  go_enter Tryz.func40,Tryz.ntmps40
  go_upto_region 1 with(fail)
  have HV1:=Hd (HV.out.below HB0.out);generalize (w.alloc (.cells #[.int .i64 0,.string ⟨#[]⟩,.int .i64 0,.int .i64 0] 41))=w1 at *;clear HV
  go_wp2_with fail
  refine(lxLetter _ _).mono ?_;rw [h1];rintro e w' ⟨rfl,rfl⟩
  go_wp2_with fail
  refine(lxDigit _ _).mono ?_;rw [h2];rintro e w' ⟨rfl,rfl⟩
  go_wp2_with fail
  refine(HC.out _ HV1.out).mono ?_;rintro e w2 ⟨rfl,hb⟩;have HG2:=Hd (HG0.out.below hb);have HB2:=Hd (HB0.out.trans (hb.mono HB0.out.size));clear hb HV1 HC
  go_wp2_with (refine wpList_store_row rfl _ _ _ rfl w.heap.size _ rfl rfl _ _ HG2.out tk_info rfl (by simp [Value.oneCell']) ?_)
  exact bodyPost_ret (res_tk2 (p:=2) (u:=3) rfl _ _ w.heap.size tk0 rfl (HG2.out.set tk0)) rfl ⟨rfl,below_setRow HB2.out (Nat.le_refl _) _⟩
 | some x=>
  obtain⟨t,z⟩:=x;simp only [tkR,tkV,tkA] at HC ⊢;have HG0:Hid (Row4 41 (w.alloc (.cells #[.int .i64 0,.string ⟨#[]⟩,.int .i64 0,.int .i64 0] 41)) w.heap.size tk0):=Hd (Row4.new _ w tk0);have HB0:Hid (Below w.heap.size w (w.alloc (.cells #[.int .i64 0,.string ⟨#[]⟩,.int .i64 0,.int .i64 0] 41))):=Hd ((Below.refl _ _).alloc (Nat.le_refl _) _)
  go_enter Tryz.func40,Tryz.ntmps40
  go_upto_region 1 with(fail)
  have HV1:=Hd (HV.out.below HB0.out);generalize (w.alloc (.cells #[.int .i64 0,.string ⟨#[]⟩,.int .i64 0,.int .i64 0] 41))=w1 at *;clear HV
  go_wp2_with fail
  refine(lxLetter _ _).mono ?_;rw [h1];rintro e w' ⟨rfl,rfl⟩
  go_wp2_with fail
  refine(lxDigit _ _).mono ?_;rw [h2];rintro e w' ⟨rfl,rfl⟩
  go_wp2_with fail
  refine(HC.out _ HV1.out).mono ?_;rintro e w2 ⟨rfl,hb⟩;have HG2:=Hd (HG0.out.below hb);have HB2:=Hd (HB0.out.trans (hb.mono HB0.out.size));clear hb HV1 HC
  go_wp2_with (refine wpList_store_row rfl _ _ _ rfl w.heap.size _ rfl rfl _ _ HG2.out tk_info rfl (by simp [Value.oneCell']) ?_)
  exact bodyPost_ret (res_tk2 (p:=2) (u:=3) rfl _ _ w.heap.size t rfl (HG2.out.set t)) rfl ⟨rfl,below_setRow HB2.out (Nat.le_refl _) _⟩
theorem lxFirst_mark(s:ByteArray) (w:World) (hs:s.size≤281474976710656) (hv:Vars w) (h0:0<s.size) (h1:letB ((s[0]'h0).toNat:Int)=false) (h2:digitB ((s[0]'h0).toNat:Int)=false) (h3:¬ s[0]'h0=39):
 Calls Tryz.prog 40 #[.string s] w fun e w'=>e=.returned (tkR (tokL s.data.toList))∧Below w.heap.size w w':=by
 obtain⟨F,hl⟩:=head_at h0;have HT:Hid (tokL s.data.toList=markT s.data.toList):=Hd (by rw [hl,tok_cons,if_neg (by rw [h1];simp),if_neg (by rw [h2];simp),if_neg h3]);have h01:1≤s.size:=h0;have hq:((s.extract 0 1).toList==[39])=false:=by rw [ext_one h0];simpa using h3
 clear h3;have HV:=Hd hv;clear hv hl;rw [HT.out];have HC:Hid (∀ w,Vars w→Calls Tryz.prog 84 #[.string s] w fun e w'=>e=.returned (tkR (markT s.data.toList))∧Below w.heap.size w w'):=Hd (fun w hv=>lxMark s w hs hv);generalize markT s.data.toList=o at HC ⊢;clear HT
 cases o with
 | none=>
  simp only [tkR,tkV,tkA,tk0] at HC ⊢;have HG0:Hid (Row4 41 (w.alloc (.cells #[.int .i64 0,.string ⟨#[]⟩,.int .i64 0,.int .i64 0] 41)) w.heap.size tk0):=Hd (Row4.new _ w tk0);have HB0:Hid (Below w.heap.size w (w.alloc (.cells #[.int .i64 0,.string ⟨#[]⟩,.int .i64 0,.int .i64 0] 41))):=Hd ((Below.refl _ _).alloc (Nat.le_refl _) _)
  go_enter Tryz.func40,Tryz.ntmps40
  go_upto_region 1 with(fail)
  have HV1:=Hd (HV.out.below HB0.out);generalize (w.alloc (.cells #[.int .i64 0,.string ⟨#[]⟩,.int .i64 0,.int .i64 0] 41))=w1 at *;clear HV
  go_wp2_with fail
  refine(lxLetter _ _).mono ?_;rw [h1];rintro e w' ⟨rfl,rfl⟩
  go_wp2_with fail
  refine(lxDigit _ _).mono ?_;rw [h2];rintro e w' ⟨rfl,rfl⟩
  go_wp2_with fail
  refine(HC.out _ HV1.out).mono ?_;rintro e w2 ⟨rfl,hb⟩;have HG2:=Hd (HG0.out.below hb);have HB2:=Hd (HB0.out.trans (hb.mono HB0.out.size));clear hb HV1 HC
  go_wp2_with (refine wpList_store_row rfl _ _ _ rfl w.heap.size _ rfl rfl _ _ HG2.out tk_info rfl (by simp [Value.oneCell']) ?_)
  exact bodyPost_ret (res_tk2 (p:=2) (u:=3) rfl _ _ w.heap.size tk0 rfl (HG2.out.set tk0)) rfl ⟨rfl,below_setRow HB2.out (Nat.le_refl _) _⟩
 | some x=>
  obtain⟨t,z⟩:=x;simp only [tkR,tkV,tkA] at HC ⊢;have HG0:Hid (Row4 41 (w.alloc (.cells #[.int .i64 0,.string ⟨#[]⟩,.int .i64 0,.int .i64 0] 41)) w.heap.size tk0):=Hd (Row4.new _ w tk0);have HB0:Hid (Below w.heap.size w (w.alloc (.cells #[.int .i64 0,.string ⟨#[]⟩,.int .i64 0,.int .i64 0] 41))):=Hd ((Below.refl _ _).alloc (Nat.le_refl _) _)
  go_enter Tryz.func40,Tryz.ntmps40
  go_upto_region 1 with(fail)
  have HV1:=Hd (HV.out.below HB0.out);generalize (w.alloc (.cells #[.int .i64 0,.string ⟨#[]⟩,.int .i64 0,.int .i64 0] 41))=w1 at *;clear HV
  go_wp2_with fail
  refine(lxLetter _ _).mono ?_;rw [h1];rintro e w' ⟨rfl,rfl⟩
  go_wp2_with fail
  refine(lxDigit _ _).mono ?_;rw [h2];rintro e w' ⟨rfl,rfl⟩
  go_wp2_with fail
  refine(HC.out _ HV1.out).mono ?_;rintro e w2 ⟨rfl,hb⟩;have HG2:=Hd (HG0.out.below hb);have HB2:=Hd (HB0.out.trans (hb.mono HB0.out.size));clear hb HV1 HC
  go_wp2_with (refine wpList_store_row rfl _ _ _ rfl w.heap.size _ rfl rfl _ _ HG2.out tk_info rfl (by simp [Value.oneCell']) ?_)
  exact bodyPost_ret (res_tk2 (p:=2) (u:=3) rfl _ _ w.heap.size t rfl (HG2.out.set t)) rfl ⟨rfl,below_setRow HB2.out (Nat.le_refl _) _⟩
theorem lxFirst(s:ByteArray) (w:World) (hs:s.size≤281474976710656) (hv:Vars w) (h0:0<s.size):
 Calls Tryz.prog 40 #[.string s] w fun e w'=>e=.returned (tkR (tokL s.data.toList))∧Below w.heap.size w w':=by
 cases h1:letB ((s[0]'h0).toNat:Int) with
 | true=>exact lxFirst_name s w hs hv h0 h1
 | false=>
  cases h2:digitB ((s[0]'h0).toNat:Int) with
  | true=>exact lxFirst_number s w hs hv h0 h1 h2
  | false=>
   by_cases h3:s[0]'h0=39
   · exact lxFirst_path s w hs hv h0 h1 h2 h3
   · exact lxFirst_mark s w hs hv h0 h1 h2 h3
end
end Go.Proofs.YtokiaaapgkdpmaaGreatDoor
