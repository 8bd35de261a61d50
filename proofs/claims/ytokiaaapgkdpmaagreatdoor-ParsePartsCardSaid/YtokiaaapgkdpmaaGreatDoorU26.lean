/- Parts of the proof: LxK, LxN, LxO. Conditions: each theorem's own. -/
import Derived.StillTailTactics
import Derived.Test.YtokiaaapgkdpmaaGreatDoorU03
import Derived.Test.YtokiaaapgkdpmaaGreatDoorU09
namespace Go.Proofs.YtokiaaapgkdpmaaGreatDoor
set_option linter.unusedVariables false
set_option linter.unusedSimpArgs false
set_option maxRecDepth 100000
set_option maxHeartbeats 40000000
section
open Go.RowKit Go.Sort
def oneS:ByteArray:=⟨#[40,41,123,125,91,93,44,59,58,61,60,62,43,45,42,47]⟩
theorem one_at(k:Nat) (h:k<oneS.size):marksL.drop (5+k)=[oneS[k]'h]::marksL.drop (5+(k+1)):=by
 have h16:k<16:=h;have hk:k=0∨k=1∨k=2∨k=3∨k=4∨k=5∨k=6∨k=7∨k=8∨k=9∨k=10∨k=11∨k=12∨k=13∨k=14∨k=15:=by omega
 rcases hk with rfl | rfl | rfl | rfl | rfl | rfl | rfl | rfl | rfl | rfl | rfl | rfl | rfl | rfl | rfl | rfl
 all_goals rfl
theorem ext_single{s:ByteArray}{k:Nat}(h:k<s.size):s.extract k (k+1)=ofL [s[k]'h]:=by
 refine eq_ofL ?_;rw [Lib.extract_data,drop_at h,show k+1-k=1 by omega];rfl
theorem two_at(k:Nat) (h:k<5):∃ m:List UInt8,m.length=2∧marksL.drop k=m::marksL.drop (k+1) ∧
 (#[Value.string ⟨#[58,61]⟩,.string ⟨#[45,62]⟩,.string ⟨#[60,61]⟩,.string ⟨#[62,61]⟩,.string ⟨#[60,62]⟩]:Array Value)[k]?=some (.string (ofL m)):=by
 match k,h with
 | 0,_=>exact⟨_,rfl,rfl,rfl⟩
 | 1,_=>exact⟨_,rfl,rfl,rfl⟩
 | 2,_=>exact⟨_,rfl,rfl,rfl⟩
 | 3,_=>exact⟨_,rfl,rfl,rfl⟩
 | 4,_=>exact⟨_,rfl,rfl,rfl⟩
theorem pre_short{m l:List UInt8}(h:l.length<m.length):m.isPrefixOf l=false:=by
 cases hp:m.isPrefixOf l with
 | false=>rfl
 | true=>
  rw [List.isPrefixOf_iff_prefix] at hp;have:=hp.length_le;omega
theorem pre_take{m l:List UInt8}(h:m.length≤l.length):m.isPrefixOf l=(l.take m.length==m):=by
 rw [Bool.eq_iff_iff,List.isPrefixOf_iff_prefix,List.prefix_iff_eq_take,beq_iff_eq];exact eq_comm
theorem ret_str{a b:ByteArray}(h:a=b):Ending.returned (.string a)=.returned (.string b):=by rw [h]
def markAns(s:ByteArray):ByteArray:=ofL ((markL s.data.toList).getD [])
theorem rxMark(s:ByteArray) (w:World) (hs:s.size≤9223372036854775806) (h0:0<s.size):
 Calls Tryz.prog 48 #[.string s] w fun e w'=>e=.returned (.string (markAns s))∧Below w.heap.size w w':=by
 have HB0:Hid (Below w.heap.size w (w.alloc (.cells #[.string ⟨#[58,61]⟩,.string ⟨#[45,62]⟩,.string ⟨#[60,61]⟩,.string ⟨#[62,61]⟩,.string ⟨#[60,62]⟩] 9))):=Hd ((Below.refl _ _).alloc (Nat.le_refl _) _);have HC0:Hid (∀ k,(w.alloc (.cells #[.string ⟨#[58,61]⟩,.string ⟨#[45,62]⟩,.string ⟨#[60,61]⟩,.string ⟨#[62,61]⟩,.string ⟨#[60,62]⟩] 9)).cell? ⟨w.heap.size,k,none⟩=(#[Value.string ⟨#[58,61]⟩,.string ⟨#[45,62]⟩,.string ⟨#[60,61]⟩,.string ⟨#[62,61]⟩,.string ⟨#[60,62]⟩]:Array Value)[k]?):=Hd (fun k=>World.cell?_alloc_new (w:=w) _ _ k)
 go_enter Tryz.func48,Tryz.ntmps48
 go_upto_region 2 with(fail)
 generalize (w.alloc (.cells #[.string ⟨#[58,61]⟩,.string ⟨#[45,62]⟩,.string ⟨#[60,61]⟩,.string ⟨#[62,61]⟩,.string ⟨#[60,62]⟩] 9))=w1 at *
 go_wp2_with fail
 go_loopw [4] (fun i wr=>∃ k:Nat,k≤5∧i=.int .i64 k∧markL s.data.toList=(marksL.drop k).find? (fun m=>m.isPrefixOf s.data.toList)∧∃ m,wr=w1.drewN m) (fun i _=>5-(intOf i).toNat)
 case atStart=>exact⟨0,by omega,rfl,rfl,0,rfl⟩
 case round=>
  obtain⟨k,hk,rfl,hrel,nd,rfl⟩:=hrel;have HR:=Hd hrel;clear hrel
  by_cases hlt:k<5
  · obtain⟨m,hm2,hml,hmc⟩:=two_at k hlt;have hcell:w1.cell? ⟨w.heap.size,k,none⟩=some (.string (ofL m)):=(HC0.out k).trans hmc;have hcd:(w1.drewN nd).cell? ⟨w.heap.size,k,none⟩=some (.string (ofL m)):=hcell;have HML:=Hd hml;have hmz:(ofL m).size=2:=hm2;clear hml hmc
    by_cases h2:2≤s.size
    · have hd2:decide (2≤(s.size:Int))=true:=decide_eq_true (by omega)
      have hpx:m.isPrefixOf s.data.toList=((s.extract 0 2).toList==(ofL m).toList):=by
       rw [pre_take (by rw [hm2,← Lib.size_eq];exact h2),hm2,Lib.toList_data,Lib.toList_data,ext_list];rfl
      cases hb:((s.extract 0 2).toList==(ofL m).toList) with
      | true=>
       rw [hb] at hpx;have HE:=Hd (show ofL m=markAns s by unfold markAns;rw [HR.out,HML.out,List.find?_cons_of_pos (by exact hpx)];rfl);clear hpx
       go_wp2_with fail
       go_quiet (fail)
       go_wp2_with fail
       go_ret
       exact⟨ret_str HE.out,below_drewN HB0.out _⟩
      | false=>
       rw [hb] at hpx
       have HE:=Hd (show markL s.data.toList=(marksL.drop (k+1)).find? (fun m=>m.isPrefixOf s.data.toList) by
        rw [HR.out,HML.out,List.find?_cons_of_neg (by show ¬ m.isPrefixOf s.data.toList=true;rw [hpx];simp)])
       clear hpx
       go_wp2_with fail
       go_quiet (fail)
       go_wp2_with fail
       go_roundw
       case rel=>exact⟨k+1,by omega,by go_num,HE.out,_,rfl⟩
       case measure=>simp [intOf];omega
    · have hd2:decide (2≤(s.size:Int))=false:=decide_eq_false (by omega);have hpx:m.isPrefixOf s.data.toList=false:=pre_short (by rw [hm2,← Lib.size_eq];omega)
      have HE:=Hd (show markL s.data.toList=(marksL.drop (k+1)).find? (fun m=>m.isPrefixOf s.data.toList) by
       rw [HR.out,HML.out,List.find?_cons_of_neg (by show ¬ m.isPrefixOf s.data.toList=true;rw [hpx];simp)])
      clear hpx
      go_wp2_with fail
      go_quiet (fail)
      go_wp2_with fail
      go_roundw
      case rel=>exact⟨k+1,by omega,by go_num,HE.out,_,rfl⟩
      case measure=>simp [intOf];omega
  · obtain rfl:k=5:=by omega
    have HON:=Hd one_at;have hon:oneS.size=16:=rfl
    go_wp2_with fail
    rw [show(⟨#[40,41,123,125,91,93,44,59,58,61,60,62,43,45,42,47]⟩:ByteArray)=oneS from rfl];generalize oneS=on at *
    go_loopw [6] (fun i wr=>∃ k:Nat,k≤16∧i=.int .i64 k∧markL s.data.toList=(marksL.drop (5+k)).find? (fun m=>m.isPrefixOf s.data.toList)∧∃ m,wr=w1.drewN m) (fun i _=>16-(intOf i).toNat)
    case atStart=>exact⟨0,by omega,rfl,HR.out,_,rfl⟩
    case round=>
     obtain⟨k,hk,rfl,hrel,nd,rfl⟩:=hrel;have HR2:=Hd hrel;clear hrel
     by_cases hlt:k<on.size
     · have HML:=Hd (HON.out k hlt);obtain⟨F,hl⟩:=head_at h0
       have hpx:[on[k]'hlt].isPrefixOf s.data.toList=(((s[0]'h0).toNat:Int)==((on[k]'hlt).toNat:Int)):=by
        rw [hl,Bool.eq_iff_iff];simp only [List.isPrefixOf_cons_cons,List.isPrefixOf_nil_left,Bool.and_true,beq_iff_eq]
        constructor
        · intro e;rw [e]
        · intro e;exact UInt8.toNat_inj.1 (by omega)
       have hsx:=ext_single hlt;clear hl
       cases hb:(((s[0]'h0).toNat:Int)==((on[k]'hlt).toNat:Int)) with
       | true=>
        rw [hb] at hpx;have HE:=Hd (show ofL [on[k]'hlt]=markAns s by unfold markAns;rw [HR2.out,HML.out,List.find?_cons_of_pos (by exact hpx)];rfl);clear hpx
        go_wp2_with fail
        go_quiet (fail)
        go_wp2_with fail
        go_ret
        exact⟨ret_str HE.out,below_drewN HB0.out _⟩
       | false=>
        rw [hb] at hpx
        have HE:=Hd (show markL s.data.toList=(marksL.drop (5+(k+1))).find? (fun m=>m.isPrefixOf s.data.toList) by
         rw [HR2.out,HML.out,List.find?_cons_of_neg (by show ¬ [on[k]'hlt].isPrefixOf s.data.toList=true;rw [hpx];simp)])
        clear hpx
        go_wp2_with fail
        go_quiet (fail)
        go_wp2_with fail
        go_roundw
        case rel=>exact⟨k+1,by omega,by go_num,HE.out,_,rfl⟩
        case measure=>simp [intOf];omega
     · obtain rfl:k=16:=by omega
       have HE:=Hd (show(⟨#[]⟩:ByteArray)=markAns s by unfold markAns;rw [HR2.out];rfl)
       go_wp2_with fail
       go_ret
       exact⟨ret_str HE.out,below_drewN HB0.out _⟩
def PathAns(s:ByteArray) (p:Nat) (e:Ending):Prop:=∃ (t:Tk) (q:Int) (b:Bool),e=.returned (.tuple #[tkV t,.int .i64 q,.bool b]) ∧
 match pathT (s.data.toList.drop (p+1)) with
 | none=>b=false
 | some (u,z)=>b=true∧t={ u with a:=p }∧q=((p+z:Nat):Int)
theorem quot_none{s:ByteArray}{p:Nat}(H:PieceAll (fun c=>c != 39) s (p+1) s.size):pathT (s.data.toList.drop (p+1))=none:=by
 have h1:quotL (s.data.toList.drop (p+1))=pieceL s (p+1) s.size:=H.stop (.inl rfl);have h2:=piece_len H.1 H.2.1;unfold pathT;rw [h1,if_neg];rintro ⟨h3,_⟩;rw [h2,List.length_drop,← Lib.size_eq] at h3;omega
theorem quot_some{s:ByteArray}{p j:Nat}(H:PieceAll (fun c=>c != 39) s (p+1) j) (h:j<s.size) (hc:s[j]'h=39):
 pathT (s.data.toList.drop (p+1))=if pathB (pieceL s (p+1) j)=true then some (⟨4,pieceL s (p+1) j,0,0⟩,j-(p+1)+2) else none:=by
 have h1:quotL (s.data.toList.drop (p+1))=pieceL s (p+1) j:=H.stop (.inr ⟨h,by rw [hc];decide⟩);have h2:=piece_len H.1 H.2.1;unfold pathT;rw [h1,h2];have h3:j-(p+1)<(s.data.toList.drop (p+1)).length:=by rw [List.length_drop,← Lib.size_eq];have:=H.1;omega
 simp only [h3,true_and]
theorem rxPath(s:ByteArray) (p:Nat) (w:World) (hs:s.size≤1000) (hp:p<s.size):
 Calls Tryz.prog 41 #[.string s,.int .i64 (p:Int)] w fun e w'=>PathAns s p e∧Below w.heap.size w w':=by
 have HG0:Hid (Row4 40 (w.alloc (.cells #[.int .i64 0,.string ⟨#[]⟩,.int .i64 0,.int .i64 0] 40)) w.heap.size tk0):=Hd (Row4.new _ w tk0);have HB0:Hid (Below w.heap.size w (w.alloc (.cells #[.int .i64 0,.string ⟨#[]⟩,.int .i64 0,.int .i64 0] 40))):=Hd ((Below.refl _ _).alloc (Nat.le_refl _) _)
 go_enter Tryz.func41,Tryz.ntmps41
 go_upto_region 1 with(fail)
 generalize (w.alloc (.cells #[.int .i64 0,.string ⟨#[]⟩,.int .i64 0,.int .i64 0] 40))=w1 at *
 go_wp2_with fail
 go_loop [7] (fun i=>∃ j:Nat,i=.int .i64 j∧PieceAll (fun c=>c != 39) s (p+1) j) (fun i=>s.size-(intOf i).toNat)
 case atStart=>exact⟨p+1,by go_num,PieceAll.start (by omega)⟩
 case round=>
  obtain⟨j,rfl,hrel⟩:=hrel;have HR:=Hd hrel;have hpj:=hrel.1;have hj:=hrel.2.1;clear hrel
  by_cases hlt:j<s.size
  · by_cases hq:s[j]'hlt=39
    · have hx:(((s[j]'hlt).toNat:Int)==39)=true:=by rw [hq];rfl
      have HP:=Hd (quot_some HR.out hlt hq);have hpx:=piece_ext hpj hj;have HC:=Hd (refPath (ofL (pieceL s (p+1) j)));rw [ofL_list] at HC;have hpl:=piece_len hpj hj;have hz:(ofL (pieceL s (p+1) j)).size≤1000:=by rw [ofL_size,hpl];omega
      generalize pieceL s (p+1) j=l at *;clear hq
      cases hb:pathB l with
      | true=>
       rw [hb] at HP HC
       go_wp2_with fail
       refine(HC.out _ hz).mono ?_;rintro e w2 ⟨rfl,hb2⟩;have HG2:=Hd (HG0.out.below hb2);have HB2:=Hd (HB0.out.trans (hb2.mono HB0.out.size));clear hb2 hb
       go_wp2_with (refine wpList_store_row rfl _ _ _ rfl w.heap.size _ rfl rfl _ _ HG2.out tr_info rfl (by simp [Value.oneCell']) ?_)
       exact bodyPost_ret (res_tr3 (p:=4) (u:=5) (v:=6) rfl _ _ w.heap.size ⟨4,l,0,p⟩ rfl (HG2.out.set ⟨4,l,0,p⟩)) rfl ⟨⟨_,_,_,rfl,by rw [HP.out];exact⟨rfl,rfl,by omega⟩⟩,below_setRow HB2.out (Nat.le_refl _) _⟩
      | false=>
       rw [hb] at HP HC
       go_wp2_with fail
       refine(HC.out _ hz).mono ?_;rintro e w2 ⟨rfl,hb2⟩;have HG2:=Hd (HG0.out.below hb2);have HB2:=Hd (HB0.out.trans (hb2.mono HB0.out.size));clear hb2 hb
       go_wp2_with (refine wpList_store_row rfl _ _ _ rfl w.heap.size _ rfl rfl _ _ HG2.out tr_info rfl (by simp [Value.oneCell']) ?_)
       exact bodyPost_ret (res_tr3 (p:=4) (u:=5) (v:=6) rfl _ _ w.heap.size ⟨4,l,0,p⟩ rfl (HG2.out.set ⟨4,l,0,p⟩)) rfl ⟨⟨_,_,_,rfl,by rw [HP.out];rfl⟩,below_setRow HB2.out (Nat.le_refl _) _⟩
    · have hx:(((s[j]'hlt).toNat:Int)==39)=false:=byte_no 39 39 rfl (by simpa using hq);have HN:=Hd (HR.out.on hlt (by simpa using hq));clear hq
      go_wp2_with fail
      go_round
      case rel=>exact⟨j+1,by go_num,HN.out⟩
      case measure=>simp [intOf];omega
  · obtain rfl:j=s.size:=by omega
    have HP:=Hd (quot_none HR.out)
    go_wp2_with (refine wpList_store_row rfl _ _ _ rfl w.heap.size _ rfl rfl _ _ HG0.out tr_info rfl (by simp [Value.oneCell']) ?_)
    exact bodyPost_ret (res_tr3 (p:=4) (u:=5) (v:=6) rfl _ _ w.heap.size tk0 rfl (HG0.out.set tk0)) rfl ⟨⟨_,_,_,rfl,by rw [HP.out]⟩,below_setRow HB0.out (Nat.le_refl _) _⟩
end
section
open Go.RowKit Go.Sort
def OneAns(s:ByteArray) (p:Nat) (e:Ending):Prop:=∃ (t:Tk) (q:Int) (b:Bool),e=.returned (.tuple #[tkV t,.int .i64 q,.bool b]) ∧
 match tokL (s.data.toList.drop p) with
 | none=>b=false
 | some (u,z)=>b=true∧t={ u with a:=p }∧q=((p+z:Nat):Int)
section
variable {s:ByteArray}{p:Nat}
theorem tok_name(h:p<s.size) (hc:letB ((s[p]'h).toNat:Int)=true):tokL (s.data.toList.drop p)=nameT (s.data.toList.drop p):=by
 rw [drop_at h,tok_cons,if_pos hc]
theorem tok_num(h:p<s.size) (hc:letB ((s[p]'h).toNat:Int)=false) (hd:digitB ((s[p]'h).toNat:Int)=true):tokL (s.data.toList.drop p)=numT (s.data.toList.drop p):=by
 rw [drop_at h,tok_cons,if_neg (by rw [hc];simp),if_pos hd]
theorem tok_path(h:p<s.size) (hc:s[p]'h=39):tokL (s.data.toList.drop p)=pathT (s.data.toList.drop (p+1)):=by
 rw [drop_at h,tok_cons,hc];rfl
theorem tok_mark(h:p<s.size) (hc:letB ((s[p]'h).toNat:Int)=false) (hd:digitB ((s[p]'h).toNat:Int)=false) (hq:¬ s[p]'h=39):tokL (s.data.toList.drop p)=markT (s.data.toList.drop p):=by
 rw [drop_at h,tok_cons,if_neg (by rw [hc];simp),if_neg (by rw [hd];simp),if_neg hq]
theorem let_39{x:Int}(h:letB x=true):(x==39)=false:=by
 simp [letB,smallB,greatB] at h
 simp;omega
theorem dig_39{x:Int}(h:digitB x=true):(x==39)=false:=by
 simp [digitB] at h
 simp;omega
theorem let_dig{x:Int}(h:letB x=true):digitB x=false:=by
 simp [letB,smallB,greatB] at h
 simp [digitB];omega
theorem word_small{c:UInt8}{l:List UInt8}(h:wordB (c::l)=true):smallB (c.toNat:Int)=true:=by
 have h2:∀ m∈wordsL,∀ d r,m=d::r→smallB ((d:UInt8).toNat:Int)=true:=by
  intro m hm d r e;simp only [wordsL,List.mem_cons,List.not_mem_nil,or_false] at hm;rcases hm with h | h | h | h | h | h | h | h | h | h | h | h | h | h | h | h | h | h | h | h | h | h | h | h <;> rw [h] at e <;> injection e with e1 _ <;> subst e1 <;> rfl
 exact h2 _ (by simpa [wordB] using h) c l rfl
theorem low_small{c:UInt8}{l:List UInt8}(h:lowB (c::l)=true):smallB (c.toNat:Int)=true:=by
 simp [lowB,nameB] at h
 exact h.1.1.2
theorem high_great{c:UInt8}{l:List UInt8}(h:highB (c::l)=true):greatB (c.toNat:Int)=true:=by
 simp [highB,nameB] at h
 exact h.1.2
theorem small_great{x:Int}(h:smallB x=true):greatB x=false:=by
 simp [smallB] at h
 simp [greatB];omega
theorem name_cons{c:UInt8}{l:List UInt8}(h:nameC (c.toNat:Int)=true):∃ r,nameL (c::l)=c::r:=⟨nameL l,by simp only [nameL,List.takeWhile_cons,h,if_true]⟩
theorem let_name{x:Int}(h:letB x=true):nameC x=true:=by
 simp only [letB,Bool.or_eq_true] at h;rcases h with h | h <;> simp [nameC,h]
theorem nameT_small(h:p<s.size) (hc:smallB ((s[p]'h).toNat:Int)=true):
 nameT (s.data.toList.drop p)=if(lowB (nameL (s.data.toList.drop p)) || wordB (nameL (s.data.toList.drop p)))=true then some (⟨1,nameL (s.data.toList.drop p),0,0⟩,(nameL (s.data.toList.drop p)).length) else none:=by
 obtain⟨r,hr⟩:=name_cons (c:=s[p]'h) (l:=s.data.toList.drop (p+1)) (let_name (by simp [letB,hc]))
 have hh:highB (nameL (s.data.toList.drop p))=false:=by
  rw [drop_at h,hr]
  cases e:highB (s[p]'h::r) with
  | false=>rfl
  | true=>have:=high_great e;rw [small_great hc] at this;cases this
 unfold nameT;rw [hh]
 simp
theorem nameT_great(h:p<s.size) (hc:greatB ((s[p]'h).toNat:Int)=true):
 nameT (s.data.toList.drop p)=if highB (nameL (s.data.toList.drop p))=true then some (⟨2,nameL (s.data.toList.drop p),0,0⟩,(nameL (s.data.toList.drop p)).length) else none:=by
 obtain⟨r,hr⟩:=name_cons (c:=s[p]'h) (l:=s.data.toList.drop (p+1)) (let_name (by simp [letB,hc]))
 have hs:smallB ((s[p]'h).toNat:Int)=false:=by
  cases e:smallB ((s[p]'h).toNat:Int) with
  | false=>rfl
  | true=>have:=small_great e;rw [hc] at this;cases this
 have hl:lowB (nameL (s.data.toList.drop p))=false:=by
  rw [drop_at h,hr]
  cases e:lowB (s[p]'h::r) with
  | false=>rfl
  | true=>have:=low_small e;rw [hs] at this;cases this
 have hw:wordB (nameL (s.data.toList.drop p))=false:=by
  rw [drop_at h,hr]
  cases e:wordB (s[p]'h::r) with
  | false=>rfl
  | true=>have:=word_small e;rw [hs] at this;cases this
 unfold nameT;rw [hl,hw]
 simp
end
theorem Row4.thaw{T:TypeId}{W:World}{g:Nat}{t:Tk}(h:Row4 T W g t) (j:Nat):W.frozen? ⟨g,j,none⟩=false:=by
 unfold Row4 at h
 simp [World.frozen?,h]
theorem four_set{T:TypeId}{W:World}{g:Nat}{t:Tk}(h:Row4 T W g t) (u:Tk):
 (((W.setCell ⟨g,0,none⟩ (.int .i64 u.k)).setCell ⟨g,1,none⟩ (.string (ofL u.s))).setCell ⟨g,2,none⟩ (.int .i64 u.n)).setCell ⟨g,3,none⟩ (.int .i64 (u.a:Int))=W.setRow g (tkA u):=by
 unfold Row4 at h;rw [setCell_eq_setRow _ _ _ _ _ _ _ h];have h1:=setRow_heap _ _ _ ((tkA t).setIfInBounds 0 (.int .i64 u.k)) _ _ h;rw [setCell_eq_setRow _ _ _ _ _ _ _ h1,setRow_setRow];have h2:=setRow_heap _ _ _ (((tkA t).setIfInBounds 0 (.int .i64 u.k)).setIfInBounds 1 (.string (ofL u.s))) _ _ h;rw [setCell_eq_setRow _ _ _ _ _ _ _ h2,setRow_setRow];have h3:=setRow_heap _ _ _ ((((tkA t).setIfInBounds 0 (.int .i64 u.k)).setIfInBounds 1 (.string (ofL u.s))).setIfInBounds 2 (.int .i64 u.n)) _ _ h;rw [setCell_eq_setRow _ _ _ _ _ _ _ h3,setRow_setRow];rfl
theorem rxOne_path(s:ByteArray) (p:Nat) (w:World) (hs:s.size≤1000) (hp:p<s.size) (hc:s[p]'hp=39):
 Calls Tryz.prog 22 #[.string s,.int .i64 (p:Int)] w fun e w'=>OneAns s p e∧Below w.heap.size w w':=by
 have HT:=Hd (tok_path hp hc);have hx:(((s[p]'hp).toNat:Int)==39)=true:=by rw [hc];rfl
 clear hc;have HG0:Hid (Row4 40 (w.alloc (.cells #[.int .i64 0,.string ⟨#[]⟩,.int .i64 0,.int .i64 0] 40)) w.heap.size tk0):=Hd (Row4.new _ w tk0);have HB0:Hid (Below w.heap.size w (w.alloc (.cells #[.int .i64 0,.string ⟨#[]⟩,.int .i64 0,.int .i64 0] 40))):=Hd ((Below.refl _ _).alloc (Nat.le_refl _) _)
 go_enter Tryz.func22,Tryz.ntmps22
 go_upto_region 1 with(fail)
 generalize (w.alloc (.cells #[.int .i64 0,.string ⟨#[]⟩,.int .i64 0,.int .i64 0] 40))=w1 at *
 go_wp2_with fail
 refine(rxPath s p _ hs hp).mono ?_;rintro e w2 ⟨⟨t,q,b,rfl,hm⟩,hb2⟩;have HM:=Hd hm;have HG2:=Hd (HG0.out.below hb2);have HB2:=Hd (HB0.out.trans (hb2.mono HB0.out.size));clear hb2 hm;simp only [tkV,tkA]
 go_wp2_with (refine wpList_store_row rfl _ _ _ rfl w.heap.size _ rfl rfl _ _ HG2.out tr_info rfl (by simp [Value.oneCell']) ?_)
 exact bodyPost_ret (res_tr3 (p:=4) (u:=5) (v:=6) rfl _ _ w.heap.size t rfl (HG2.out.set t)) rfl ⟨⟨_,_,_,rfl,by rw [HT.out];exact HM.out⟩,below_setRow HB2.out (Nat.le_refl _) _⟩
theorem rxOne_mark(s:ByteArray) (p:Nat) (w:World) (hs:s.size≤1000) (hp:p<s.size) (hc:letB ((s[p]'hp).toNat:Int)=false) (hd:digitB ((s[p]'hp).toNat:Int)=false) (hq:¬ s[p]'hp=39):
 Calls Tryz.prog 22 #[.string s,.int .i64 (p:Int)] w fun e w'=>OneAns s p e∧Below w.heap.size w w':=by
 have HT:=Hd (tok_mark hp hc hd hq);have hx:(((s[p]'hp).toNat:Int)==39)=false:=byte_no 39 39 rfl (by simpa using hq);simp only [letB,Bool.or_eq_false_iff] at hc;obtain⟨hc1,hc2⟩:=hc;clear hq;have hzr:0<(s.extract p s.size).size:=by rw [Lib.size_eq,ext_rest,List.length_drop,← Lib.size_eq];omega
 have hzl:(s.extract p s.size).size≤9223372036854775806:=by rw [Lib.size_eq,ext_rest,List.length_drop,← Lib.size_eq];omega
 have HK:=Hd (fun w=>rxMark (s.extract p s.size) w hzl hzr);have hme:markAns (s.extract p s.size)=ofL ((markL (s.data.toList.drop p)).getD []):=by unfold markAns;rw [ext_rest]
 rw [hme] at HK;have HG0:Hid (Row4 40 (w.alloc (.cells #[.int .i64 0,.string ⟨#[]⟩,.int .i64 0,.int .i64 0] 40)) w.heap.size tk0):=Hd (Row4.new _ w tk0);have HB0:Hid (Below w.heap.size w (w.alloc (.cells #[.int .i64 0,.string ⟨#[]⟩,.int .i64 0,.int .i64 0] 40))):=Hd ((Below.refl _ _).alloc (Nat.le_refl _) _);clear hme
 have HA:Hid (match tokL (s.data.toList.drop p) with | none=>(!((markL (s.data.toList.drop p)).getD []).isEmpty)=false | some (u,z)=>(!((markL (s.data.toList.drop p)).getD []).isEmpty)=true∧(⟨5,(markL (s.data.toList.drop p)).getD [],0,p⟩:Tk)={ u with a:=p }∧((p:Int)+(((markL (s.data.toList.drop p)).getD []).length:Int))=((p+z:Nat):Int)):=Hd (by
  rw [HT.out];unfold markT
  cases hm:markL (s.data.toList.drop p) with
  | none=>rfl
  | some m=>
   have h3:=(mark_pos hm).1;refine⟨?_,rfl,by simp⟩
   cases m with
   | nil=>simp at h3
   | cons a r=>rfl)
 have hm2:((markL (s.data.toList.drop p)).getD []).length≤1000:=by
  cases hm:markL (s.data.toList.drop p) with
  | none=>simp
  | some m=>
   have h3:=(mark_pos hm).2.1;rw [List.length_drop,← Lib.size_eq] at h3
   show m.length≤1000
   omega
 clear HT;generalize (markL (s.data.toList.drop p)).getD []=m at *
 go_enter Tryz.func22,Tryz.ntmps22
 go_upto_region 1 with(fail)
 generalize (w.alloc (.cells #[.int .i64 0,.string ⟨#[]⟩,.int .i64 0,.int .i64 0] 40))=w1 at *
 go_wp2_with fail
 refine(rxInD _ _).mono ?_;rw [hd];rintro e w' ⟨rfl,rfl⟩
 go_wp2_with fail
 refine(rxInS _ _).mono ?_;rw [hc1];rintro e w' ⟨rfl,rfl⟩
 go_wp2_with fail
 refine(rxInG _ _).mono ?_;rw [hc2];rintro e w' ⟨rfl,rfl⟩
 go_wp2_with fail
 refine(HK.out _).mono ?_;rintro e w2 ⟨rfl,hb2⟩;have HG2:=Hd (HG0.out.below hb2);have HB2:=Hd (HB0.out.trans (hb2.mono HB0.out.size));clear hb2;have hml:(ofL m).size=m.length:=ofL_size m
 have hme:((ofL m).toList==[])=m.isEmpty:=by
  rw [Lib.toList_data,ofL_list]
  cases m <;> rfl
 go_wp2_with (refine wpList_store_row rfl _ _ _ rfl w.heap.size _ rfl rfl _ _ HG2.out tr_info rfl (by simp [Value.oneCell']) ?_)
 exact bodyPost_ret (res_tr3 (p:=4) (u:=5) (v:=6) rfl _ _ w.heap.size ⟨5,m,0,p⟩ rfl (HG2.out.set ⟨5,m,0,p⟩)) rfl ⟨⟨_,_,_,rfl,HA.out⟩,below_setRow HB2.out (Nat.le_refl _) _⟩
theorem num_form(s:ByteArray) (p:Nat) (hs:s.size≤1000) (hp:p<s.size) (hc:letB ((s[p]'hp).toNat:Int)=false) (hd:digitB ((s[p]'hp).toNat:Int)=true):
 ∃ (u:Tk) (b:Bool),numAns s p=.tuple #[tkV u,.bool b]∧u.s.length≤1000 ∧
  match tokL (s.data.toList.drop p) with
  | none=>b=false
  | some (t,z)=>b=true∧u={ t with a:=p }∧((p:Int)+(u.s.length:Int))=((p+z:Nat):Int):=by
 have ht:=tok_num hp hc hd;rw [ht]
 cases hn:numT (s.data.toList.drop p) with
 | none=>exact⟨tk0,false,by unfold numAns;rw [hn],by simp [tk0],rfl⟩
 | some x=>
  obtain⟨t,z⟩:=x;have h1:=tok_ok (ht.trans hn)
  have hk:t.k=3:=by
   unfold numT at hn
   split at hn
   · cases hn
   · cases hn;rfl
  have hz:t.s.length=z:=by
   have:=h1.2.2.1;unfold Tk.w at this;rw [hk] at this
   simpa using this
  refine⟨{ t with a:=p },true,by unfold numAns;rw [hn],?_,rfl,rfl,?_⟩
  · have:=h1.2.1;rw [List.length_drop,← Lib.size_eq] at this
    show t.s.length≤1000
    omega
  · show(p:Int)+(t.s.length:Int)=_
    rw [hz];simp
theorem rxOne_num(s:ByteArray) (p:Nat) (w:World) (hs:s.size≤1000) (hp:p<s.size) (hc:letB ((s[p]'hp).toNat:Int)=false) (hd:digitB ((s[p]'hp).toNat:Int)=true):
 Calls Tryz.prog 22 #[.string s,.int .i64 (p:Int)] w fun e w'=>OneAns s p e∧Below w.heap.size w w':=by
 obtain⟨u,b,hf,hu,hm⟩:=num_form s p hs hp hc hd;have HM:=Hd hm;have HN:=Hd (fun w=>rxNumber s p w (by omega) hp hd);rw [hf] at HN;have hx:=dig_39 hd;clear hm hf hc;have HG0:Hid (Row4 40 (w.alloc (.cells #[.int .i64 0,.string ⟨#[]⟩,.int .i64 0,.int .i64 0] 40)) w.heap.size tk0):=Hd (Row4.new _ w tk0);have HB0:Hid (Below w.heap.size w (w.alloc (.cells #[.int .i64 0,.string ⟨#[]⟩,.int .i64 0,.int .i64 0] 40))):=Hd ((Below.refl _ _).alloc (Nat.le_refl _) _);have hul:(ofL u.s).size=u.s.length:=ofL_size _;simp only [tkV,tkA] at HN
 go_enter Tryz.func22,Tryz.ntmps22
 go_upto_region 1 with(fail)
 generalize (w.alloc (.cells #[.int .i64 0,.string ⟨#[]⟩,.int .i64 0,.int .i64 0] 40))=w1 at *
 go_wp2_with fail
 refine(rxInD _ _).mono ?_;rw [hd];rintro e w' ⟨rfl,rfl⟩
 go_wp2_with fail
 refine(HN.out _).mono ?_;rintro e w2 ⟨rfl,hb2⟩;have HG2:=Hd (HG0.out.below hb2);have HB2:=Hd (HB0.out.trans (hb2.mono HB0.out.size));clear hb2
 go_upto_region 6 with(fail)
 have HG3:Hid (Row4 40 (w2.alloc (.cells #[.int .i64 u.k,.string (ofL u.s),.int .i64 u.n,.int .i64 (u.a:Int)] 40)) w.heap.size tk0):=Hd (HG2.out.alloc _);have HX3:Hid (Row4 40 (w2.alloc (.cells #[.int .i64 u.k,.string (ofL u.s),.int .i64 u.n,.int .i64 (u.a:Int)] 40)) w2.heap.size u):=Hd (Row4.new _ w2 u);have HB3:Hid (Below w.heap.size w (w2.alloc (.cells #[.int .i64 u.k,.string (ofL u.s),.int .i64 u.n,.int .i64 (u.a:Int)] 40))):=Hd (HB2.out.alloc HB2.out.size _);generalize (w2.alloc (.cells #[.int .i64 u.k,.string (ofL u.s),.int .i64 u.n,.int .i64 (u.a:Int)] 40))=w3 at *
 have hne1:w2.heap.size≠w.heap.size:=by
  have h1:=HG2.out.lt;omega
 have hne2:w.heap.size≠w2.heap.size:=fun e=>hne1 e.symm;have c0:=HX3.out.c0;have c1:=HX3.out.c1;have c2:=HX3.out.c2;have c3:=HX3.out.c3;have hu2:decide ((1000:Int)<(u.s.length:Int))=false:=decide_eq_false (by omega);have r0:=HG3.out.c0;have r1:=HG3.out.c1;have r2:=HG3.out.c2;have r3:=HG3.out.c3;have fz:∀ j,w3.frozen? ⟨w.heap.size,j,none⟩=false:=HG3.out.thaw;have f0:=fz 0;have f1:=fz 1;have f2:=fz 2;have f3:=fz 3;clear fz
 go_region
 rw [four_set HG3.out u];have HG4:Hid (Row4 40 (w3.setRow w.heap.size (tkA u)).drew w.heap.size u):=Hd (HG3.out.set u);have HB4:Hid (Below w.heap.size w (w3.setRow w.heap.size (tkA u)).drew):=Hd (Below.drew (below_setRow HB3.out (Nat.le_refl _) _));generalize (w3.setRow w.heap.size (tkA u)).drew=w4 at *
 go_wp2_with fail
 exact bodyPost_ret (res_tr3 (p:=4) (u:=5) (v:=6) rfl _ _ w.heap.size u rfl HG4.out) rfl ⟨⟨_,_,_,rfl,HM.out⟩,HB4.out⟩
theorem rxOne_small(s:ByteArray) (p:Nat) (w:World) (hs:s.size≤1000) (hp:p<s.size) (hc:smallB ((s[p]'hp).toNat:Int)=true):
 Calls Tryz.prog 22 #[.string s,.int .i64 (p:Int)] w fun e w'=>OneAns s p e∧Below w.heap.size w w':=by
 have hlet:letB ((s[p]'hp).toNat:Int)=true:=by simp [letB,hc]
 have HT:=Hd ((tok_name hp hlet).trans (nameT_small hp hc));have hx:=let_39 hlet;have hd:=let_dig hlet;have hg:=small_great hc;clear hlet;have HG0:Hid (Row4 40 (w.alloc (.cells #[.int .i64 0,.string ⟨#[]⟩,.int .i64 0,.int .i64 0] 40)) w.heap.size tk0):=Hd (Row4.new _ w tk0);have HB0:Hid (Below w.heap.size w (w.alloc (.cells #[.int .i64 0,.string ⟨#[]⟩,.int .i64 0,.int .i64 0] 40))):=Hd ((Below.refl _ _).alloc (Nat.le_refl _) _)
 go_enter Tryz.func22,Tryz.ntmps22
 go_upto_region 1 with(fail)
 generalize (w.alloc (.cells #[.int .i64 0,.string ⟨#[]⟩,.int .i64 0,.int .i64 0] 40))=w1 at *
 go_wp2_with fail
 refine(rxInD _ _).mono ?_;rw [hd];rintro e w' ⟨rfl,rfl⟩
 go_wp2_with fail
 refine(rxInS _ _).mono ?_;rw [hc];rintro e w' ⟨rfl,rfl⟩
 go_wp2_with fail
 go_loop [10] (fun i=>∃ k:Nat,i=.int .i64 k∧PieceAll (fun c=>nameC (c.toNat:Int)) s p k) (fun i=>s.size-(intOf i).toNat)
 case atStart=>exact⟨p,rfl,PieceAll.start (by omega)⟩
 case round=>
  obtain⟨k,rfl,hrel⟩:=hrel;have HR:=Hd hrel;have hpk:=hrel.1;have hk:=hrel.2.1;clear hrel
  by_cases hlt:k<s.size
  · by_cases hn:nameC ((s[k]'hlt).toNat:Int)=true
    · have HN:=Hd (HR.out.on hlt hn)
      go_wp2_with (go_at_call 44;refine(rxInner _ _).mono ?_;rintro e w' ⟨rfl,rfl⟩)
      go_round
      case rel=>exact⟨k+1,by go_num,HN.out⟩
      case measure=>simp [intOf];omega
    · have hn:nameC ((s[k]'hlt).toNat:Int)=false:=Bool.eq_false_iff.2 hn;have HL:=Hd (show nameL (s.data.toList.drop p)=pieceL s p k from HR.out.stop (.inr ⟨hlt,hn⟩));have HT2:=HT.out;rw [HL.out,piece_len hpk hk] at HT2;have hpx:=piece_ext hpk hk;have hpl:=piece_len hpk hk;have hz:(ofL (pieceL s p k)).size≤9223372036854775807:=by rw [ofL_size,hpl];omega
      have HLo:=Hd (refLow (ofL (pieceL s p k)));have HWo:=Hd (refWord (ofL (pieceL s p k)));have HHi:=Hd (refHigh (ofL (pieceL s p k)));rw [ofL_list] at HLo HWo HHi;generalize pieceL s p k=l at *;have HTT:=Hd HT2;clear HT2
      cases hb:lowB l with
      | true=>
       rw [hb] at HTT HLo;clear hb
       go_wp2_with (go_at_call 44;refine(rxInner _ _).mono ?_;rintro e w' ⟨rfl,rfl⟩)
       refine(rxInG _ _).mono ?_;rw [hg];rintro e w' ⟨rfl,rfl⟩
       go_wp2_with fail
       refine(HLo.out _ hz).mono ?_;rintro e w2 ⟨rfl,hb2⟩;have HG2:=Hd (HG0.out.below hb2);have HB2:=Hd (HB0.out.trans (hb2.mono HB0.out.size));clear hb2
       go_wp2_with (refine wpList_store_row rfl _ _ _ rfl w.heap.size _ rfl rfl _ _ HG2.out tr_info rfl (by simp [Value.oneCell']) ?_)
       exact bodyPost_ret (res_tr3 (p:=4) (u:=5) (v:=6) rfl _ _ w.heap.size ⟨1,l,0,p⟩ rfl (HG2.out.set ⟨1,l,0,p⟩)) rfl ⟨⟨_,_,_,rfl,by rw [HTT.out];exact⟨rfl,rfl,by omega⟩⟩,below_setRow HB2.out (Nat.le_refl _) _⟩
      | false=>
       rw [hb] at HTT HLo;clear hb
       cases hw:wordB l with
       | true=>
        rw [hw] at HTT HWo;clear hw
        go_wp2_with (go_at_call 44;refine(rxInner _ _).mono ?_;rintro e w' ⟨rfl,rfl⟩)
        refine(rxInG _ _).mono ?_;rw [hg];rintro e w' ⟨rfl,rfl⟩
        go_wp2_with fail
        refine(HLo.out _ hz).mono ?_;rintro e w2 ⟨rfl,hb2⟩;have HG2:=Hd (HG0.out.below hb2);have HB2:=Hd (HB0.out.trans (hb2.mono HB0.out.size));clear hb2
        go_wp2_with fail
        refine(HWo.out _).mono ?_;rintro e w3 ⟨rfl,hb3⟩;have HG3:=Hd (HG2.out.below hb3);have HB3:=Hd (HB2.out.trans (hb3.mono HB2.out.size));clear hb3
        go_wp2_with (refine wpList_store_row rfl _ _ _ rfl w.heap.size _ rfl rfl _ _ HG3.out tr_info rfl (by simp [Value.oneCell']) ?_)
        exact bodyPost_ret (res_tr3 (p:=4) (u:=5) (v:=6) rfl _ _ w.heap.size ⟨1,l,0,p⟩ rfl (HG3.out.set ⟨1,l,0,p⟩)) rfl ⟨⟨_,_,_,rfl,by rw [HTT.out];exact⟨rfl,rfl,by omega⟩⟩,below_setRow HB3.out (Nat.le_refl _) _⟩
       | false=>
        rw [hw] at HTT HWo;clear hw
        go_wp2_with (go_at_call 44;refine(rxInner _ _).mono ?_;rintro e w' ⟨rfl,rfl⟩)
        refine(rxInG _ _).mono ?_;rw [hg];rintro e w' ⟨rfl,rfl⟩
        go_wp2_with fail
        refine(HLo.out _ hz).mono ?_;rintro e w2 ⟨rfl,hb2⟩;have HG2:=Hd (HG0.out.below hb2);have HB2:=Hd (HB0.out.trans (hb2.mono HB0.out.size));clear hb2
        go_wp2_with fail
        refine(HWo.out _).mono ?_;rintro e w3 ⟨rfl,hb3⟩;have HG3:=Hd (HG2.out.below hb3);have HB3:=Hd (HB2.out.trans (hb3.mono HB2.out.size));clear hb3
        go_wp2_with (refine wpList_store_row rfl _ _ _ rfl w.heap.size _ rfl rfl _ _ HG3.out tr_info rfl (by simp [Value.oneCell']) ?_)
        exact bodyPost_ret (res_tr3 (p:=4) (u:=5) (v:=6) rfl _ _ w.heap.size ⟨1,l,0,p⟩ rfl (HG3.out.set ⟨1,l,0,p⟩)) rfl ⟨⟨_,_,_,rfl,by rw [HTT.out];rfl⟩,below_setRow HB3.out (Nat.le_refl _) _⟩
  · have HL:=Hd (show nameL (s.data.toList.drop p)=pieceL s p k from HR.out.stop (.inl (by omega)));have HT2:=HT.out;rw [HL.out,piece_len hpk hk] at HT2;have hpx:=piece_ext hpk hk;have hpl:=piece_len hpk hk;have hz:(ofL (pieceL s p k)).size≤9223372036854775807:=by rw [ofL_size,hpl];omega
    have HLo:=Hd (refLow (ofL (pieceL s p k)));have HWo:=Hd (refWord (ofL (pieceL s p k)));have HHi:=Hd (refHigh (ofL (pieceL s p k)));rw [ofL_list] at HLo HWo HHi;generalize pieceL s p k=l at *;have HTT:=Hd HT2;clear HT2
    cases hb:lowB l with
    | true=>
     rw [hb] at HTT HLo;clear hb
     go_wp2_with fail
     refine(rxInG _ _).mono ?_;rw [hg];rintro e w' ⟨rfl,rfl⟩
     go_wp2_with fail
     refine(HLo.out _ hz).mono ?_;rintro e w2 ⟨rfl,hb2⟩;have HG2:=Hd (HG0.out.below hb2);have HB2:=Hd (HB0.out.trans (hb2.mono HB0.out.size));clear hb2
     go_wp2_with (refine wpList_store_row rfl _ _ _ rfl w.heap.size _ rfl rfl _ _ HG2.out tr_info rfl (by simp [Value.oneCell']) ?_)
     exact bodyPost_ret (res_tr3 (p:=4) (u:=5) (v:=6) rfl _ _ w.heap.size ⟨1,l,0,p⟩ rfl (HG2.out.set ⟨1,l,0,p⟩)) rfl ⟨⟨_,_,_,rfl,by rw [HTT.out];exact⟨rfl,rfl,by omega⟩⟩,below_setRow HB2.out (Nat.le_refl _) _⟩
    | false=>
     rw [hb] at HTT HLo;clear hb
     cases hw:wordB l with
     | true=>
      rw [hw] at HTT HWo;clear hw
      go_wp2_with fail
      refine(rxInG _ _).mono ?_;rw [hg];rintro e w' ⟨rfl,rfl⟩
      go_wp2_with fail
      refine(HLo.out _ hz).mono ?_;rintro e w2 ⟨rfl,hb2⟩;have HG2:=Hd (HG0.out.below hb2);have HB2:=Hd (HB0.out.trans (hb2.mono HB0.out.size));clear hb2
      go_wp2_with fail
      refine(HWo.out _).mono ?_;rintro e w3 ⟨rfl,hb3⟩;have HG3:=Hd (HG2.out.below hb3);have HB3:=Hd (HB2.out.trans (hb3.mono HB2.out.size));clear hb3
      go_wp2_with (refine wpList_store_row rfl _ _ _ rfl w.heap.size _ rfl rfl _ _ HG3.out tr_info rfl (by simp [Value.oneCell']) ?_)
      exact bodyPost_ret (res_tr3 (p:=4) (u:=5) (v:=6) rfl _ _ w.heap.size ⟨1,l,0,p⟩ rfl (HG3.out.set ⟨1,l,0,p⟩)) rfl ⟨⟨_,_,_,rfl,by rw [HTT.out];exact⟨rfl,rfl,by omega⟩⟩,below_setRow HB3.out (Nat.le_refl _) _⟩
     | false=>
      rw [hw] at HTT HWo;clear hw
      go_wp2_with fail
      refine(rxInG _ _).mono ?_;rw [hg];rintro e w' ⟨rfl,rfl⟩
      go_wp2_with fail
      refine(HLo.out _ hz).mono ?_;rintro e w2 ⟨rfl,hb2⟩;have HG2:=Hd (HG0.out.below hb2);have HB2:=Hd (HB0.out.trans (hb2.mono HB0.out.size));clear hb2
      go_wp2_with fail
      refine(HWo.out _).mono ?_;rintro e w3 ⟨rfl,hb3⟩;have HG3:=Hd (HG2.out.below hb3);have HB3:=Hd (HB2.out.trans (hb3.mono HB2.out.size));clear hb3
      go_wp2_with (refine wpList_store_row rfl _ _ _ rfl w.heap.size _ rfl rfl _ _ HG3.out tr_info rfl (by simp [Value.oneCell']) ?_)
      exact bodyPost_ret (res_tr3 (p:=4) (u:=5) (v:=6) rfl _ _ w.heap.size ⟨1,l,0,p⟩ rfl (HG3.out.set ⟨1,l,0,p⟩)) rfl ⟨⟨_,_,_,rfl,by rw [HTT.out];rfl⟩,below_setRow HB3.out (Nat.le_refl _) _⟩
theorem rxOne_great(s:ByteArray) (p:Nat) (w:World) (hs:s.size≤1000) (hp:p<s.size) (hc:greatB ((s[p]'hp).toNat:Int)=true):
 Calls Tryz.prog 22 #[.string s,.int .i64 (p:Int)] w fun e w'=>OneAns s p e∧Below w.heap.size w w':=by
 have hlet:letB ((s[p]'hp).toNat:Int)=true:=by simp [letB,hc]
 have HT:=Hd ((tok_name hp hlet).trans (nameT_great hp hc));have hx:=let_39 hlet;have hd:=let_dig hlet
 have hg:smallB ((s[p]'hp).toNat:Int)=false:=by
  cases e:smallB ((s[p]'hp).toNat:Int) with
  | false=>rfl
  | true=>have:=small_great e;rw [hc] at this;cases this
 clear hlet;have HG0:Hid (Row4 40 (w.alloc (.cells #[.int .i64 0,.string ⟨#[]⟩,.int .i64 0,.int .i64 0] 40)) w.heap.size tk0):=Hd (Row4.new _ w tk0);have HB0:Hid (Below w.heap.size w (w.alloc (.cells #[.int .i64 0,.string ⟨#[]⟩,.int .i64 0,.int .i64 0] 40))):=Hd ((Below.refl _ _).alloc (Nat.le_refl _) _)
 go_enter Tryz.func22,Tryz.ntmps22
 go_upto_region 1 with(fail)
 generalize (w.alloc (.cells #[.int .i64 0,.string ⟨#[]⟩,.int .i64 0,.int .i64 0] 40))=w1 at *
 go_wp2_with fail
 refine(rxInD _ _).mono ?_;rw [hd];rintro e w' ⟨rfl,rfl⟩
 go_wp2_with fail
 refine(rxInS _ _).mono ?_;rw [hg];rintro e w' ⟨rfl,rfl⟩
 go_wp2_with fail
 refine(rxInG _ _).mono ?_;rw [hc];rintro e w' ⟨rfl,rfl⟩
 go_wp2_with fail
 go_loop [10] (fun i=>∃ k:Nat,i=.int .i64 k∧PieceAll (fun c=>nameC (c.toNat:Int)) s p k) (fun i=>s.size-(intOf i).toNat)
 case atStart=>exact⟨p,rfl,PieceAll.start (by omega)⟩
 case round=>
  obtain⟨k,rfl,hrel⟩:=hrel;have HR:=Hd hrel;have hpk:=hrel.1;have hk:=hrel.2.1;clear hrel
  by_cases hlt:k<s.size
  · by_cases hn:nameC ((s[k]'hlt).toNat:Int)=true
    · have HN:=Hd (HR.out.on hlt hn)
      go_wp2_with (go_at_call 44;refine(rxInner _ _).mono ?_;rintro e w' ⟨rfl,rfl⟩)
      go_round
      case rel=>exact⟨k+1,by go_num,HN.out⟩
      case measure=>simp [intOf];omega
    · have hn:nameC ((s[k]'hlt).toNat:Int)=false:=Bool.eq_false_iff.2 hn;have HL:=Hd (show nameL (s.data.toList.drop p)=pieceL s p k from HR.out.stop (.inr ⟨hlt,hn⟩));have HT2:=HT.out;rw [HL.out,piece_len hpk hk] at HT2;have hpx:=piece_ext hpk hk;have hpl:=piece_len hpk hk;have hz:(ofL (pieceL s p k)).size≤9223372036854775807:=by rw [ofL_size,hpl];omega
      have HLo:=Hd (refLow (ofL (pieceL s p k)));have HWo:=Hd (refWord (ofL (pieceL s p k)));have HHi:=Hd (refHigh (ofL (pieceL s p k)));rw [ofL_list] at HLo HWo HHi;generalize pieceL s p k=l at *;have HTT:=Hd HT2;clear HT2
      cases hb:highB l with
      | true=>
       rw [hb] at HTT HHi;clear hb
       go_wp2_with (go_at_call 44;refine(rxInner _ _).mono ?_;rintro e w' ⟨rfl,rfl⟩)
       refine(rxInG _ _).mono ?_;rw [hc];rintro e w' ⟨rfl,rfl⟩
       go_wp2_with fail
       refine(HHi.out _ hz).mono ?_;rintro e w2 ⟨rfl,rfl⟩
       go_wp2_with (refine wpList_store_row rfl _ _ _ rfl w.heap.size _ rfl rfl _ _ HG0.out tr_info rfl (by simp [Value.oneCell']) ?_)
       exact bodyPost_ret (res_tr3 (p:=4) (u:=5) (v:=6) rfl _ _ w.heap.size ⟨2,l,0,p⟩ rfl (HG0.out.set ⟨2,l,0,p⟩)) rfl ⟨⟨_,_,_,rfl,by rw [HTT.out];exact⟨rfl,rfl,by omega⟩⟩,below_setRow HB0.out (Nat.le_refl _) _⟩
      | false=>
       rw [hb] at HTT HHi;clear hb
       go_wp2_with (go_at_call 44;refine(rxInner _ _).mono ?_;rintro e w' ⟨rfl,rfl⟩)
       refine(rxInG _ _).mono ?_;rw [hc];rintro e w' ⟨rfl,rfl⟩
       go_wp2_with fail
       refine(HHi.out _ hz).mono ?_;rintro e w2 ⟨rfl,rfl⟩
       go_wp2_with (refine wpList_store_row rfl _ _ _ rfl w.heap.size _ rfl rfl _ _ HG0.out tr_info rfl (by simp [Value.oneCell']) ?_)
       exact bodyPost_ret (res_tr3 (p:=4) (u:=5) (v:=6) rfl _ _ w.heap.size ⟨2,l,0,p⟩ rfl (HG0.out.set ⟨2,l,0,p⟩)) rfl ⟨⟨_,_,_,rfl,by rw [HTT.out];rfl⟩,below_setRow HB0.out (Nat.le_refl _) _⟩
  · have HL:=Hd (show nameL (s.data.toList.drop p)=pieceL s p k from HR.out.stop (.inl (by omega)));have HT2:=HT.out;rw [HL.out,piece_len hpk hk] at HT2;have hpx:=piece_ext hpk hk;have hpl:=piece_len hpk hk;have hz:(ofL (pieceL s p k)).size≤9223372036854775807:=by rw [ofL_size,hpl];omega
    have HLo:=Hd (refLow (ofL (pieceL s p k)));have HWo:=Hd (refWord (ofL (pieceL s p k)));have HHi:=Hd (refHigh (ofL (pieceL s p k)));rw [ofL_list] at HLo HWo HHi;generalize pieceL s p k=l at *;have HTT:=Hd HT2;clear HT2
    cases hb:highB l with
    | true=>
     rw [hb] at HTT HHi;clear hb
     go_wp2_with fail
     refine(rxInG _ _).mono ?_;rw [hc];rintro e w' ⟨rfl,rfl⟩
     go_wp2_with fail
     refine(HHi.out _ hz).mono ?_;rintro e w2 ⟨rfl,rfl⟩
     go_wp2_with (refine wpList_store_row rfl _ _ _ rfl w.heap.size _ rfl rfl _ _ HG0.out tr_info rfl (by simp [Value.oneCell']) ?_)
     exact bodyPost_ret (res_tr3 (p:=4) (u:=5) (v:=6) rfl _ _ w.heap.size ⟨2,l,0,p⟩ rfl (HG0.out.set ⟨2,l,0,p⟩)) rfl ⟨⟨_,_,_,rfl,by rw [HTT.out];exact⟨rfl,rfl,by omega⟩⟩,below_setRow HB0.out (Nat.le_refl _) _⟩
    | false=>
     rw [hb] at HTT HHi;clear hb
     go_wp2_with fail
     refine(rxInG _ _).mono ?_;rw [hc];rintro e w' ⟨rfl,rfl⟩
     go_wp2_with fail
     refine(HHi.out _ hz).mono ?_;rintro e w2 ⟨rfl,rfl⟩
     go_wp2_with (refine wpList_store_row rfl _ _ _ rfl w.heap.size _ rfl rfl _ _ HG0.out tr_info rfl (by simp [Value.oneCell']) ?_)
     exact bodyPost_ret (res_tr3 (p:=4) (u:=5) (v:=6) rfl _ _ w.heap.size ⟨2,l,0,p⟩ rfl (HG0.out.set ⟨2,l,0,p⟩)) rfl ⟨⟨_,_,_,rfl,by rw [HTT.out];rfl⟩,below_setRow HB0.out (Nat.le_refl _) _⟩
theorem rxOne(s:ByteArray) (p:Nat) (w:World) (hs:s.size≤1000) (hp:p<s.size):
 Calls Tryz.prog 22 #[.string s,.int .i64 (p:Int)] w fun e w'=>OneAns s p e∧Below w.heap.size w w':=by
 by_cases hq:s[p]'hp=39
 · exact rxOne_path s p w hs hp hq
 · cases h1:smallB ((s[p]'hp).toNat:Int) with
   | true=>exact rxOne_small s p w hs hp h1
   | false=>
    cases h2:greatB ((s[p]'hp).toNat:Int) with
    | true=>exact rxOne_great s p w hs hp h2
    | false=>
     have hl:letB ((s[p]'hp).toNat:Int)=false:=by simp [letB,h1,h2]
     cases h3:digitB ((s[p]'hp).toNat:Int) with
     | true=>exact rxOne_num s p w hs hp hl h3
     | false=>exact rxOne_mark s p w hs hp hl h3 hq
end
section
open Go.RowKit Go.Sort
theorem infoTr:(Tryz.prog.info? 40).map (fun i=>(i.zero,i.size,i.bytes))=some (some (tkV tk0),4,40):=by kernel_rfl
theorem AllRel.skip{T:TypeId}{s:ByteArray}{w w':World}{v:Value}{p q:Nat}{acc:List Tk}(h:AllRel T s w v p acc w') (k:SkipTo s p q):AllRel T s w v q acc w' :=
 ⟨k.2.1,by have:=h.2.1;have:=k.1;omega,h.2.2.1,by rw [h.2.2.2.1,k.2.2],h.2.2.2.2⟩
theorem rxAll(s:ByteArray) (most:Int) (w:World) (hs:s.size≤1000) (hm:(s.size:Int)≤most):
 Calls Tryz.prog 11 #[.string s,.int .i64 most] w fun e w'=>AllAns s e w'∧Below w.heap.size w w':=by
 obtain⟨i0,hi,hz0,hz1,hz2⟩:=info_parts infoTr;have hg:decide (most<(s.size:Int))=false:=decide_eq_false (by omega)
 have hA0:Hid (AllRel 40 s w (.slice (some ⟨w.heap.size,0,none⟩) 0 0) 0 [] (w.alloc (.cells #[] 40))):=
  Hd ⟨Nat.zero_le _,Nat.le_refl _,World.ownsRow_lit w #[] 0 (Nat.le_refl _) (by decide) rfl,by simp,(Below.refl _ _).alloc (Nat.le_refl _) _⟩
 go_enter Tryz.func11,Tryz.ntmps11
 go_upto_region 4 with(fail)
 generalize (w.alloc (.cells #[] 40))=w1 at *;clear hg hm
 go_wp2_with fail
 refine(rxSkip s 0 _ (by omega) (Nat.zero_le _)).mono ?_;rintro e w' ⟨⟨q0,rfl,hsk,hbk⟩,rfl⟩;have hA1:=Hd (hA0.out.skip hsk);have hbk0:=Hd hbk;clear hsk hbk hA0
 go_wp2_with fail
 go_loopw [7,8] (fun v i wr=>∃ (p:Nat) (acc:List Tk),i=.int .i64 p∧AllRel 40 s w v p acc wr∧(p<s.size→blankN (s.data.toList.drop p)=0)) (fun _ i _=>s.size-(intOf i).toNat)
 case atStart=>exact⟨q0,[],rfl,hA1.out,hbk0.out⟩
 case round=>
  obtain⟨p,acc,rfl,hrel,hbk⟩:=hrel;have HA:=Hd hrel;have HBK:=Hd hbk;have hp:=hrel.1;clear hrel hbk
  by_cases hlt:p<s.size
  · go_wp2_with fail
    refine(rxOne s p _ hs hlt).mono ?_;rintro e w2 ⟨⟨t,q,b,rfl,hm⟩,hb2⟩;have HA2:=Hd (HA.out.on hb2);clear hb2
    cases ht:tokL (s.data.toList.drop p) with
    | none=>
     rw [ht] at hm;obtain rfl:b=false:=hm;have HE:=Hd (HA2.out.bad hlt (HBK.out hlt) ht);have HBW:=Hd HA2.out.2.2.2.2;clear ht;simp only [tkV,tkA]
     go_wp2_with fail
     exact bodyPost_ret (v:=.tuple #[.slice none 0 0,.int .i64 (p:Int),.int .i64 2]) (by simp [results,Tryz.results11,go_sem]) rfl ⟨AllAns.no HE.out,HBW.out.alloc HBW.out.size _⟩
    | some x=>
     obtain⟨u,z⟩:=x;rw [ht] at hm;obtain⟨rfl,rfl,rfl⟩:=hm;have HT:=Hd ht;have hrow:=HA2.out.2.2.1;have hlen:=HA2.out.2.1;have hBz:=HA2.out.2.2.2.2.size;have HBW:=Hd HA2.out.2.2.2.2;have hzq:p+z≤s.size:=by have:=(tok_ok ht).2.1;rw [List.length_drop,← Lib.size_eq] at this;omega
     clear ht;simp only [tkV,tkA]
     go_wp2_with (at_builtin;go_must (refine wpList_append_own _ rfl _ _ 35 rfl w.heap.size 40 i0 (tkV tk0) 4 40 Tryz.underlying35 hi hz0 hz1 hz2 rfl (by decide) _ _ _ rfl ((hrow.alloc _).alloc _) ⟨w2.heap.size+1,0,none⟩ 1 1 (tkA { u with a:=p }).toList rfl rfl (cells_new _ _ _ _) (by rw [← flatT_one];exact flatT_ones _) (by unfold maxLen;omega) (by omega) (by simp;omega) ?_;intro v' w3 hown' hgrow _))
     have hBE:=Hd (((HBW.out.alloc hBz (.cells (tkA { u with a:=p }) 40)).alloc (by simp;omega) (.cells (tkA { u with a:=p }) 40)).grown hgrow (by simp;omega) (fun j hj=>(hrow.lt j hj).1));have HN:=Hd (HA2.out.tok (HBK.out hlt) HT.out hown' hBE.out);have hzp:=(tok_ok HT.out).1;clear hown' hgrow hrow;refine(rxSkip s (p+z) _ (by omega) hzq).mono ?_;rintro e w' ⟨⟨q1,rfl,hsk,hbk⟩,rfl⟩;have HN2:=Hd (HN.out.skip hsk);have HBK2:=Hd hbk;have hq1:=hsk.1;clear hsk hbk
     go_wp2_with fail
     go_roundw
     case rel=>exact⟨q1,acc++[{ u with a:=p }],rfl,HN2.out,HBK2.out⟩
     case measure=>simp [intOf];omega
  · have hpe:p=s.size:=by omega
    have HP:=Hd hpe;have HE:=Hd (AllRel.all (hpe ▸ HA.out));have hrow:=HA.out.2.2.1;have hlen:=HA.out.2.1;have hBz:=HA.out.2.2.2.2.size;have HBW:=Hd HA.out.2.2.2.2;clear hpe
    go_wp2_with (at_builtin;go_must (refine wpList_append_own _ rfl _ _ 35 rfl w.heap.size 40 i0 (tkV tk0) 4 40 Tryz.underlying35 hi hz0 hz1 hz2 rfl (by decide) _ _ _ rfl (hrow.alloc _) ⟨wr.heap.size,0,none⟩ 1 1 (tkA ⟨6,[],0,s.size⟩).toList rfl rfl (cells_new1 _ _ _) (by rw [← flatT_one];exact flatT_ones _) (by unfold maxLen;omega) (by omega) (by simp;omega) ?_;intro v' w3 hown' hgrow _))
    have hBE:=(HBW.out.alloc hBz (.cells (tkA ⟨6,[],0,s.size⟩) 40)).grown hgrow (by simp;omega) (fun j hj=>(hrow.lt j hj).1);obtain⟨A,c,rfl,hR⟩:=RdK.of_own (ts:=acc++[⟨6,[],0,s.size⟩]) (by rw [flatT_app,flatT_one];exact hown') (by omega);exact bodyPost_ret (v:=.tuple #[.slice A (acc.length+1) c,.int .i64 (s.size:Int),.int .i64 0]) (by simp [results,Tryz.results11,go_sem]) rfl ⟨AllAns.yes HE.out rfl hR,hBE⟩
end
end Go.Proofs.YtokiaaapgkdpmaaGreatDoor
