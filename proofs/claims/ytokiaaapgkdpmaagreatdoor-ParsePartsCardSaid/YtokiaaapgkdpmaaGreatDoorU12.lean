/- Parts: PaR, PaS, PaU, PaV. Conditions: each theorem's own. -/
import Derived.Test.YtokiaaapgkdpmaaGreatDoorU09
import Derived.Test.YtokiaaapgkdpmaaGreatDoorU10
import Derived.Test.YtokiaaapgkdpmaaGreatDoorU11
namespace Go.Proofs.YtokiaaapgkdpmaaGreatDoor
set_option linter.unusedVariables false
set_option linter.unusedSimpArgs false
set_option maxRecDepth 100000
set_option maxHeartbeats 40000000
section
open Go.RowKit Go.Sort
def bl(b:Nat)(w:World):World:={ w with heap:=w.heap.setIfInBounds b (.cells #[] 0) }
section
variable {b:Nat}{w w':World}
theorem bl_size:(bl b w).heap.size=w.heap.size:=by simp[bl]
theorem bl_block{k:Nat}(h:k≠b):(bl b w).heap[k]?=w.heap[k]?:=by
 unfold bl;rw[Array.getElem?_setIfInBounds_ne (Ne.symm h)]
theorem bl_at{k:Nat}:(bl b w).heap[b]?=if b<w.heap.size then some (.cells #[] 0) else none:=by
 unfold bl;simp only[Array.getElem?_setIfInBounds]
 simp
theorem bl_cell{p:Addr}(h:p.block≠b):(bl b w).cell? p=w.cell? p:=by
 unfold World.cell?;rw[bl_block h]
theorem bl_some{p:Addr}{v:Value}(h:(bl b w).cell? p=some v):w.cell? p=some v:=by
 by_cases hp:p.block=b
 · unfold World.cell? at h;rw[hp,bl_at (k:=0)] at h
   split at h
   · rename_i c x y e
     split at e
     · injection e with e;injection e with e1;subst e1
       split at h <;> simp at h
     · cases e
   · cases h
 · rwa [bl_cell hp] at h
theorem bl_alloc(h:b<w.heap.size)(o:Obj):bl b (w.alloc o)=(bl b w).alloc o:=by
 have e:(w.heap.push o).setIfInBounds b (.cells #[] 0)=(w.heap.setIfInBounds b (.cells #[] 0)).push o:=by
  apply Array.ext_getElem?
  intro i;simp only[Array.getElem?_setIfInBounds,Array.getElem?_push,Array.size_setIfInBounds,Array.size_push]
  by_cases h1:b=i
  · subst h1;have h2:b≠w.heap.size:=by omega
    simp[h,h2,Nat.lt_succ_of_lt h]
  · simp[h1]
 unfold bl World.alloc;exact congrArg (fun hp=>{ w with heap:=hp }) e
theorem bl_of(h:Below w.heap.size w w'):Below w.heap.size (bl b w) (bl b w'):=by
 refine⟨h.os,h.tape,h.output,by rw[bl_size,bl_size];exact h.size,fun k hk=>?_⟩
 by_cases hb:k=b
 · subst hb;rw[bl_at (k:=0),bl_at (k:=0),if_pos hk,if_pos (Nat.lt_of_lt_of_le hk h.size)]
 · rw[bl_block hb,bl_block hb,h.block k hk]
theorem bl_modify(f:Obj→Obj):(w.heap.modify b f).setIfInBounds b (.cells #[] 0)=w.heap.setIfInBounds b (.cells #[] 0):=by
 apply Array.ext_getElem?
 intro i;simp only[Array.getElem?_setIfInBounds,Array.getElem?_modify,Array.size_modify]
 by_cases h1:b=i <;> simp[h1]
theorem bl_set(i:Nat)(v:Value):bl b (w.setCell ⟨b,i,none⟩ v)=bl b w:=by
 unfold bl World.setCell;exact congrArg (fun hp=>{ w with heap:=hp }) (bl_modify _)
theorem bl_setRow{g:Nat}(hg:g≠b)(cs:Array Value):bl b (w.setRow g cs)=(bl b w).setRow g cs:=by
 have e:∀ f:Obj→Obj,(w.heap.modify g f).setIfInBounds b (.cells #[] 0)=(w.heap.setIfInBounds b (.cells #[] 0)).modify g f:=fun f=>by
  apply Array.ext_getElem?
  intro i;simp only[Array.getElem?_setIfInBounds,Array.getElem?_modify,Array.size_modify]
  by_cases h1:b=i
  · subst h1
    simp[hg]
  · simp[h1]
 unfold bl World.setRow;exact congrArg (fun hp=>{ w with heap:=hp }) (e _)
end
def prA(v:Value)(i:Int)(bad:Bool):Array Value:=#[v,.int .i64 i,.bool bad]
def EndR(r:List Tk):Prop:=∃ q z,r=q++[z]∧z.k=6
theorem EndR.tail{t:Tk}{r:List Tk}(h:EndR (t::r))(ht:t.k≠6):EndR r:=by
 obtain⟨q,z,e,hz⟩:=h
 cases q with
 | nil=>
  simp at e
  obtain⟨rfl,rfl⟩:=e;exact absurd hz ht
 | cons a q=>
  simp at e
  exact⟨q,z,e.2,hz⟩
theorem EndR.cons_{r:List Tk}(h:EndR r):∃ t r',r=t::r':=by
 obtain⟨q,z,rfl,_⟩:=h
 cases q with
 | nil=>exact⟨z,[],rfl⟩
 | cons a q=>exact⟨a,q++[z],rfl⟩
structure PSt (w:World) (b:Nat) (A:Option Addr) (n c:Nat) (all r:List Tk) (bad:Bool):Prop where
 row:w.heap[b]?=some (.cells (prA (.slice A n c) ((n-r.length:Nat):Int) bad) 67)
 rd:RdK (bl b w) A n all
 len:r.length≤n
 pre:all.drop (n-r.length)=r
 fin:EndR r
section
variable {w w':World}{b:Nat}{A:Option Addr}{n c:Nat}{all r:List Tk}{bad:Bool}
theorem PSt.lt(h:PSt w b A n c all r bad):b<w.heap.size:=(Array.getElem?_eq_some_iff.1 h.row).1
theorem PSt.cell(h:PSt w b A n c all r bad)(j:Nat):w.cell? ⟨b,j,none⟩=(prA (.slice A n c) ((n-r.length:Nat):Int) bad)[j]?:=by
 unfold World.cell?;rw[h.row];rfl
theorem PSt.fz(h:PSt w b A n c all r bad)(j:Nat):w.frozen? ⟨b,j,none⟩=false:=by
 unfold World.frozen?;rw[h.row]
 simp
theorem PSt.max(h:PSt w b A n c all r bad):n≤9223372036854775807:=h.rd.2.1
theorem PSt.pos(h:PSt w b A n c all r bad):1≤r.length:=by
 obtain⟨t,r',e⟩:=h.fin.cons_;rw[e];simp
theorem PSt.below(h:PSt w b A n c all r bad)(hb:Below w.heap.size w w'):PSt w' b A n c all r bad:=
 ⟨(hb.block b h.lt).trans h.row,h.rd.below (by rw[bl_size];exact bl_of hb),h.len,h.pre,h.fin⟩
theorem PSt.tok(h:PSt w b A n c all r bad):∃ t r' b0 off,r=t::r'∧A=some ⟨b0,off,none⟩∧b0≠b∧b0<w.heap.size∧n-r.length<n∧all[n-r.length]?=some t ∧
 w.cell? ⟨b0,off+(n-r.length)*4,none⟩=some (.int .i64 t.k)∧w.cell? ⟨b0,off+(n-r.length)*4+1,none⟩=some (.string (ofL t.s)) ∧
 w.cell? ⟨b0,off+(n-r.length)*4+2,none⟩=some (.int .i64 t.n)∧w.cell? ⟨b0,off+(n-r.length)*4+3,none⟩=some (.int .i64 (t.a:Int)):=by
 obtain⟨t,r',e⟩:=h.fin.cons_;have hp:=h.pos;have hl:=h.len;obtain⟨b0,off,rfl,hb0,hc⟩:=h.rd.2.2 (by omega);have hi:n-r.length<n:=by omega
 obtain⟨c0,c1,c2,c3⟩:=hc (n-r.length) hi
 have hat:all[n-r.length]?=some t:=by
  have:=h.pre;rw[e] at this ⊢;have h2:=congrArg (fun l=>l[0]?) this
  simpa using h2
 rw[hat,Option.getD_some] at c0 c1 c2 c3;refine⟨t,r',b0,off,e,rfl,?_,by rwa [bl_size] at hb0,hi,hat,bl_some c0,bl_some c1,bl_some c2,bl_some c3⟩;rintro rfl;unfold World.cell? at c0;rw[bl_at (k:=0)] at c0;simp only at c0
 split at c0
 · rename_i cc x y e2
   split at e2
   · injection e2 with e2;injection e2 with e3;subst e3
     simp at c0
   · cases e2
 · cases c0
theorem PSt.next{t:Tk}{r':List Tk}(h:PSt w b A n c all (t::r') bad)(ht:t.k≠6):PSt (w.setCell ⟨b,1,none⟩ (.int .i64 ((n-r'.length:Nat):Int))) b A n c all r' bad:=by
 have hl:=h.len;simp only[List.length_cons] at hl;refine⟨?_,by rw[bl_set];exact h.rd,by omega,?_,h.fin.tail ht⟩
 · rw[setCell_eq_setRow _ _ _ _ _ _ _ h.row,setRow_heap _ _ _ _ _ _ h.row];rfl
 · have h1:=h.pre;simp only[List.length_cons] at h1;rw[show n-r'.length=(n-(r'.length+1))+1 by omega,← List.drop_drop,h1];rfl
theorem PSt.fail(h:PSt w b A n c all r bad):PSt (w.setCell ⟨b,2,none⟩ (.bool true)) b A n c all r true:=
 ⟨by rw[setCell_eq_setRow _ _ _ _ _ _ _ h.row,setRow_heap _ _ _ _ _ _ h.row];rfl,by rw[bl_set];exact h.rd,h.len,h.pre,h.fin⟩
end
end
section
open Go.RowKit Go.Sort
section
variable {w:World}{b:Nat}{A:Option Addr}{n c:Nat}{all r:List Tk}{bad:Bool}
theorem isP_head(s:ByteArray)(t:Tk)(r:List Tk):isP s.data.toList (t::r)=(((ofL t.s).toList==s.toList) && (t.k==1 || t.k==5)):=by
 rw[Lib.toList_data,Lib.toList_data];rfl
theorem prIs(s:ByteArray)(h:PSt w b A n c all r bad):
 Calls Tryz.prog 63 #[.pointer (some ⟨b,0,none⟩),.string s] w fun e w'=>e=.returned (.bool (!bad && isP s.data.toList r))∧Below w.heap.size w w':=by
 have q0:w.cell? ⟨b,0,none⟩=some (.slice A n c):=h.cell 0;have q1:w.cell? ⟨b,1,none⟩=some (.int .i64 ((n-r.length:Nat):Int)):=h.cell 1;have q2:w.cell? ⟨b,2,none⟩=some (.bool bad):=h.cell 2;have hbl:=h.lt;have hmx:=h.max;obtain⟨t,r',b0,off,rfl,rfl,hne,hb0,hi,hat,t0,t1,t2,t3⟩:=h.tok;rw[isP_head];clear h hat;generalize n-(t::r').length=i at *;have hi0:(0:Int)≤(i:Int):=by omega
 have hi1:(i:Int)<(n:Int):=by omega
 generalize t.k=k at *;generalize ofL t.s=ts at *;generalize t.n=tn at *;generalize t.a=ta at *
 cases bad with
 | true=>
  go_enter Tryz.func63,Tryz.ntmps63
  go_upto_region 1 with(fail)
  go_region
  go_wp2_with fail
  go_ret
  exact⟨rfl,((Below.refl _ _).alloc (Nat.le_refl _) _).drew⟩
 | false=>
  cases hs:(ts.toList==s.toList) with
  | false=>
   go_enter Tryz.func63,Tryz.ntmps63
   go_upto_region 1 with(fail)
   go_region
   go_wp2_with fail
   go_ret
   exact⟨rfl,((Below.refl _ _).alloc (Nat.le_refl _) _).drew⟩
  | true=>
   cases h1:(k==1) with
   | true=>
    go_enter Tryz.func63,Tryz.ntmps63
    go_upto_region 1 with(fail)
    go_region
    go_wp2_with fail
    go_ret
    exact⟨rfl,((Below.refl _ _).alloc (Nat.le_refl _) _).drew⟩
   | false=>
    cases h5:(k==5) with
    | true=>
     go_enter Tryz.func63,Tryz.ntmps63
     go_upto_region 1 with(fail)
     go_region
     go_wp2_with fail
     go_ret
     exact⟨rfl,((Below.refl _ _).alloc (Nat.le_refl _) _).drew⟩
    | false=>
     go_enter Tryz.func63,Tryz.ntmps63
     go_upto_region 1 with(fail)
     go_region
     go_wp2_with fail
     go_ret
     exact⟨rfl,((Below.refl _ _).alloc (Nat.le_refl _) _).drew⟩
def takeR(s:List UInt8)(bad:Bool)(r:List Tk):List Tk:=if(!bad && isP s r)=true then r.tail else r
theorem prTake(s:ByteArray)(h:PSt w b A n c all r bad):
 Calls Tryz.prog 61 #[.pointer (some ⟨b,0,none⟩),.string s] w fun e w'=>e=.returned (.bool (!bad && isP s.data.toList r))∧PSt w' b A n c all (takeR s.data.toList bad r) bad∧Below w.heap.size (bl b w) (bl b w'):=by
 have HI:=Hd (prIs s h);have HP:=Hd fun w1 (h1:Below w.heap.size w w1)=>h.below h1;have HT:=Hd (show takeR s.data.toList bad r=if(!bad && isP s.data.toList r)=true then r.tail else r from rfl);have hln:=h.len;have hps:=h.pos;have hmx:=h.max
 cases hb:(!bad && isP s.data.toList r) with
 | false=>
  rw[hb] at HI HT;have HE:=Hd (show takeR s.data.toList bad r=r by rw[HT.out];rfl);clear h hb HT;rw[HE.out]
  go_enter Tryz.func61,Tryz.ntmps61
  go_wp2_with fail
  refine HI.out.mono ?_;rintro e w1 ⟨rfl,hb1⟩;have HB:=Hd hb1;clear hb1
  go_wp2_with fail
  go_ret
  exact⟨rfl,HP.out _ HB.out,bl_of HB.out⟩
 | true=>
  rw[hb] at HI HT;have hbad:bad=false:=by cases bad <;> simp at hb ⊢
  obtain⟨t,r',e,hts,hk⟩:=isP_cons (s:=s.data.toList) (r:=r) (by rw[hbad] at hb;simpa using hb);subst e;have HE:=Hd (show takeR s.data.toList bad (t::r')=r' by rw[HT.out];rfl);have HN:=Hd fun w1 (h1:Below w.heap.size w w1)=>(h.below h1).next (by omega)
  simp only[List.length_cons] at hln hps;have HQ:=Hd fun w1 (h1:Below w.heap.size w w1)=>(show w1.cell? ⟨b,1,none⟩=some (.int .i64 ((n-(t::r').length:Nat):Int)) from(h.below h1).cell 1);have HF:=Hd fun w1 (h1:Below w.heap.size w w1)=>(h.below h1).fz 1;have hadd:((n-(t::r').length:Nat):Int)+1=((n-r'.length:Nat):Int):=by simp only[List.length_cons];omega
  clear h hb HT;rw[HE.out];generalize hj:((n-r'.length:Nat):Int)=j at *;generalize hi:((n-(t::r').length:Nat):Int)=i at *;have hj0:0≤j∧j≤9223372036854775807:=by omega
  have HJ:=Hd hj0;have hw:IntKind.i64.wrap (i+1)=j:=by rw[hadd,IntKind.wrap_i64];omega
  clear hj hi hj0
  go_enter Tryz.func61,Tryz.ntmps61
  go_wp2_with fail
  refine HI.out.mono ?_;rintro e w1 ⟨rfl,hb1⟩;have HB:=Hd hb1;have q1:=HQ.out w1 hb1;have f1:=HF.out w1 hb1;clear hb1
  go_wp2_with fail
  go_ret
  have hwj:wrap64 j=j:=by have:=HJ.out;unfold wrap64;omega
  rw[hwj];exact⟨rfl,HN.out w1 HB.out,by rw[bl_set];exact bl_of HB.out⟩
def PPost{α:Type}(w:World)(b:Nat)(A:Option Addr)(n c:Nat)(all:List Tk)(g:PR α)(V:α→World→Ending→Prop)(X:Ending→Prop)(e:Ending)(w':World):Prop:=
 Below w.heap.size (bl b w) (bl b w')∧match g with
  | .ok a r=>PSt w' b A n c all r false∧V a w' e
  | .bad r=>PSt w' b A n c all r true∧X e
def startP{α:Type}(bad:Bool)(r:List Tk)(g:PR α):PR α:=if bad=true then .bad r else g
abbrev PostU(w:World)(b:Nat)(A:Option Addr)(n c:Nat)(all:List Tk)(g:PR Unit):Ending→World→Prop:=
 PPost w b A n c all g (fun _ _ e=>e=.returned (.tuple #[])) (fun e=>e=.returned (.tuple #[]))
abbrev PostS(w:World)(b:Nat)(A:Option Addr)(n c:Nat)(all:List Tk)(g:PR (List UInt8)):Ending→World→Prop:=
 PPost w b A n c all g (fun s _ e=>e=.returned (.string (ofB s))) (fun e=>∃ s,e=.returned (.string s))
theorem prNeed(s:ByteArray)(h:PSt w b A n c all r bad):
 Calls Tryz.prog 65 #[.pointer (some ⟨b,0,none⟩),.string s] w (PostU w b A n c all (startP bad r (needP s.data.toList r))):=by
 have HT:=Hd (prTake s h)
 cases hb:(!bad && isP s.data.toList r) with
 | true=>
  have hbad:bad=false:=by cases bad <;> simp at hb ⊢
  subst hbad;have hi:isP s.data.toList r=true:=by simpa using hb
  have hE:startP false r (needP s.data.toList r)=.ok () r.tail:=by simp[startP,needP,hi]
  rw[hb] at HT;rw[hE];have hR:takeR s.data.toList false r=r.tail:=by simp[takeR,hi]
  rw[hR] at HT;clear h hb hi hE hR;generalize r.tail=r' at *
  go_enter Tryz.func65,Tryz.ntmps65
  go_wp2_with fail
  refine HT.out.mono ?_;rintro e w1 ⟨rfl,hP,hB⟩;have HP:=Hd hP;have HB:=Hd hB;clear hP hB
  go_wp2_with fail
  go_end0
  exact⟨HB.out,HP.out,rfl⟩
 | false=>
  have hE:startP bad r (needP s.data.toList r)=.bad r:=by
   cases bad
   · have hi:isP s.data.toList r=false:=by simpa using hb
     simp[startP,needP,hi]
   · rfl
  rw[hb] at HT;rw[hE];have hR:takeR s.data.toList bad r=r:=by simp[takeR,hb]
  rw[hR] at HT;have hbl:=h.lt;clear h hb hE hR
  go_enter Tryz.func65,Tryz.ntmps65
  go_wp2_with fail
  refine HT.out.mono ?_;rintro e w1 ⟨rfl,hP,hB⟩;have HP:=Hd hP;have HB:=Hd hB;have q2:w1.cell? ⟨b,2,none⟩=some (.bool bad):=hP.cell 2;have f2:=hP.fz 2;clear hP hB
  go_wp2_with fail
  go_end0
  exact⟨by rw[bl_set];exact HB.out,HP.out.fail,rfl⟩
theorem tok_box{k tn:Int}{s:ByteArray}{ta:Nat}{T:TypeId}{w2:World}(h:(w.alloc (.cells #[.int .i64 k,.string s,.int .i64 tn,.int .i64 (ta:Int)] T)).drew=w2):
 Below w.heap.size w w2∧w.heap.size<w2.heap.size∧w2.cell? ⟨w.heap.size,0,none⟩=some (.int .i64 k)∧w2.cell? ⟨w.heap.size,1,none⟩=some (.string s)∧w2.cell? ⟨w.heap.size,2,none⟩=some (.int .i64 tn):=by
 subst h;refine⟨((Below.refl _ _).alloc (Nat.le_refl _) _).drew,by show _<(w.alloc _).heap.size;simp,?_,?_,?_⟩
 all_goals exact World.cell?_alloc_new w _ _ _
structure TokF (w:World) (b:Nat) (A:Option Addr) (n c:Nat) (all:List Tk) (t:Tk) (r':List Tk) (bad:Bool) (b0 off i:Nat) (j:Int):Prop where
 a:A=some ⟨b0,off,none⟩
 q0:w.cell? ⟨b,0,none⟩=some (.slice A n c)
 q1:w.cell? ⟨b,1,none⟩=some (.int .i64 (i:Int))
 lb:b<w.heap.size
 l0:b0<w.heap.size
 ne:b0≠b
 lt:i<n
 mx:n≤9223372036854775807
 t0:w.cell? ⟨b0,off+i*4,none⟩=some (.int .i64 t.k)
 t1:w.cell? ⟨b0,off+i*4+1,none⟩=some (.string (ofB t.s))
 t2:w.cell? ⟨b0,off+i*4+2,none⟩=some (.int .i64 t.n)
 t3:w.cell? ⟨b0,off+i*4+3,none⟩=some (.int .i64 (t.a:Int))
 add:(i:Int)+1=j
 jn:0≤j∧j≤9223372036854775807
 p1:∀ w1,Below w.heap.size w w1→w1.cell? ⟨b,1,none⟩=some (.int .i64 (i:Int))
 p2:∀ w1,Below w.heap.size w w1→w1.cell? ⟨b,2,none⟩=some (.bool bad)
 fz:∀ w1,Below w.heap.size w w1→∀ j,w1.frozen? ⟨b,j,none⟩=false
 st:∀ w1,Below w.heap.size w w1→PSt w1 b A n c all (t::r') bad
 nx:∀ w1,Below w.heap.size w w1→t.k≠6→PSt (w1.setCell ⟨b,1,none⟩ (.int .i64 j)) b A n c all r' bad
theorem PSt.tokF(h:PSt w b A n c all r bad):∃ t r' b0 off i j,r=t::r'∧TokF w b A n c all t r' bad b0 off i j:=by
 obtain⟨t,r',b0,off,e,ha,hne,hb0,hi,hat,t0,t1,t2,t3⟩:=h.tok;have hl:=h.len;have hm:=h.max;subst e;simp only[List.length_cons] at hl;refine⟨t,r',b0,off,n-(t::r').length,((n-r'.length:Nat):Int),rfl,ha,h.cell 0,h.cell 1,h.lt,hb0,hne,hi,hm,t0,t1,t2,t3,?_,by omega,fun w1 h1=>(h.below h1).cell 1,fun w1 h1=>(h.below h1).cell 2,fun w1 h1 j=>(h.below h1).fz j,fun w1 h1=>h.below h1,fun w1 h1 ht=>(h.below h1).next ht⟩;simp only[List.length_cons];omega
theorem prName(h:PSt w b A n c all r bad):
 Calls Tryz.prog 62 #[.pointer (some ⟨b,0,none⟩)] w (PostS w b A n c all (startP bad r (nameP r))):=by
 obtain⟨t,r',b0,off,i,j,rfl,HTF⟩:=h.tokF;have HT:=Hd HTF;obtain rfl:=HTF.a;have q0:=HTF.q0;have q1:=HTF.q1;have hbl:=HTF.lb;have hb0:=HTF.l0;have hmx:=HTF.mx;have hi:=HTF.lt;have t0:=HTF.t0;have t1:=HTF.t1;have t2:=HTF.t2;have t3:=HTF.t3;have hadd:=HTF.add;have hi0:(0:Int)≤(i:Int):=by omega
 have hi1:(i:Int)<(n:Int):=by omega
 have hw:IntKind.i64.wrap ((i:Int)+1)=j:=by rw[hadd,IntKind.wrap_i64];have:=HTF.jn;omega
 clear h HTF;have HS:=Hd (show startP bad (t::r') (nameP (t::r'))=if bad=true then .bad (t::r') else if t.k=1∧wordB t.s=false then .ok t.s r' else .bad (t::r') from rfl);have HW:=Hd fun w1=>(show Calls Tryz.prog 47 #[.string (ofB t.s)] w1 fun e w'=>e=.returned (.bool (wordB t.s))∧Below w1.heap.size w1 w' from refWord (ofL t.s) w1);generalize hst:startP bad (t::r') (nameP (t::r'))=g at *;clear hst;have HK:=Hd fun w1 h1 (hk:t.k=1)=>HT.out.nx w1 h1 (by omega);generalize wordB t.s=wb at *;generalize hts:ofB t.s=ts at *;have HTS:=Hd hts;clear hts;generalize t.k=k at *;generalize t.n=tn at *;generalize t.a=ta at *
 cases bad with
 | true=>
  have HE:=Hd (show g=.bad (t::r') by rw[HS.out];rfl);rw[HE.out];clear HS HE HW HK
  go_enter Tryz.func62,Tryz.ntmps62
  go_upto_region 1 with(fail)
  go_region
  generalize hw2:(w.alloc _).drew=w2;obtain⟨hb2,hg2,u0,u1,u2⟩:=tok_box hw2;have HB2:=Hd hb2;have p1:=HT.out.p1 w2 hb2;have p2:=HT.out.p2 w2 hb2;have f1:=HT.out.fz w2 hb2 1;have f2:=HT.out.fz w2 hb2 2;clear hw2 hb2
  go_wp2_with fail
  go_ret
  exact⟨by rw[bl_set];exact bl_of HB2.out,(HT.out.st _ HB2.out).fail,_,rfl⟩
 | false=>
  cases h1:(k != 1) with
  | true=>
   have h1':¬ k=1:=by simpa using h1
   have HE:=Hd (show g=.bad (t::r') by rw[HS.out,if_neg (by simp),if_neg (fun h=>h1' h.1)]);rw[HE.out];clear HS HE HW HK
   go_enter Tryz.func62,Tryz.ntmps62
   go_upto_region 1 with(fail)
   go_region
   generalize hw2:(w.alloc _).drew=w2;obtain⟨hb2,hg2,u0,u1,u2⟩:=tok_box hw2;have HB2:=Hd hb2;have p1:=HT.out.p1 w2 hb2;have p2:=HT.out.p2 w2 hb2;have f1:=HT.out.fz w2 hb2 1;have f2:=HT.out.fz w2 hb2 2;clear hw2 hb2
   go_wp2_with fail
   go_ret
   exact⟨by rw[bl_set];exact bl_of HB2.out,(HT.out.st _ HB2.out).fail,_,rfl⟩
  | false=>
   have h1':k=1:=by simpa using h1
   cases wb with
   | true=>
    have HE:=Hd (show g=.bad (t::r') by rw[HS.out,if_neg (by simp),if_neg (fun h=>by simp at h)]);rw[HE.out];clear HS HE HK h1'
    go_enter Tryz.func62,Tryz.ntmps62
    go_upto_region 1 with(fail)
    go_region
    generalize hw2:(w.alloc _).drew=w2;obtain⟨hb2,hg2,u0,u1,u2⟩:=tok_box hw2;have HB2:=Hd hb2;have p1:=HT.out.p1 w2 hb2;have p2:=HT.out.p2 w2 hb2;have f1:=HT.out.fz w2 hb2 1;have f2:=HT.out.fz w2 hb2 2;clear hw2 hb2
    go_wp2_with fail
    refine(HW.out w2).mono ?_;rintro e w3 ⟨rfl,hb3⟩;have HB3:=Hd (HB2.out.trans (hb3.mono HB2.out.size));have p3:=HT.out.p2 w3 HB3.out;have f3:=HT.out.fz w3 HB3.out 2;clear hb3 p1 p2 f1 f2
    go_wp2_with fail
    go_ret
    exact⟨by rw[bl_set];exact bl_of HB3.out,(HT.out.st _ HB3.out).fail,_,rfl⟩
   | false=>
    have HE:=Hd (show g=.ok t.s r' by rw[HS.out,if_neg (by simp),if_pos ⟨h1',rfl⟩]);rw[HE.out];have HN:=Hd fun w1 h1=>HK.out w1 h1 h1';clear HS HE HK h1'
    go_enter Tryz.func62,Tryz.ntmps62
    go_upto_region 1 with(fail)
    go_region
    generalize hw2:(w.alloc _).drew=w2;obtain⟨hb2,hg2,u0,u1,u2⟩:=tok_box hw2;have HB2:=Hd hb2;have p1:=HT.out.p1 w2 hb2;have p2:=HT.out.p2 w2 hb2;have f1:=HT.out.fz w2 hb2 1;have f2:=HT.out.fz w2 hb2 2;clear hw2 hb2
    go_wp2_with fail
    refine(HW.out w2).mono ?_;rintro e w3 ⟨rfl,hb3⟩;have HB3:=Hd (HB2.out.trans (hb3.mono HB2.out.size));have p3:=HT.out.p1 w3 HB3.out;have p4:=HT.out.p2 w3 HB3.out;have f3:=HT.out.fz w3 HB3.out 1;have u1:=(hb3.cell (p:=⟨w.heap.size,1,none⟩) hg2).trans u1;clear hb3 p1 p2 f1 f2 u0 u2;have hne:¬ w.heap.size=b:=by omega
    have hne2:¬ b=w.heap.size:=by omega
    go_wp2_with fail
    go_ret
    have hwj:wrap64 j=j:=by have:=HT.out.jn;unfold wrap64;omega
    (try rw[hwj])
    exact⟨by rw[bl_set];exact bl_of HB3.out,HN.out _ HB3.out,congrArg (fun z=>Ending.returned (.string z)) HTS.out.symm⟩
end
end
section
open Go.RowKit Go.Sort
section
variable {w:World}{b:Nat}{A:Option Addr}{n c:Nat}{all r:List Tk}{bad:Bool}
theorem PPost.of{α:Type}{w w1 w':World}{g:PR α}{V:α→World→Ending→Prop}{X:Ending→Prop}{e:Ending}(h0:Below w.heap.size (bl b w) (bl b w1))(h:PPost w1 b A n c all g V X e w'):PPost w b A n c all g V X e w':=by
 refine⟨h0.trans (h.1.mono ?_),h.2⟩;have:=h0.size;rwa [bl_size,bl_size] at this
theorem kb_trans{w w1 w2:World}(h0:Below w.heap.size (bl b w) (bl b w1))(h:Below w1.heap.size (bl b w1) (bl b w2)):Below w.heap.size (bl b w) (bl b w2):=by
 refine h0.trans (h.mono ?_);have:=h0.size;rwa [bl_size,bl_size] at this
theorem kb_size{w w1:World}(h0:Below w.heap.size (bl b w) (bl b w1)):w.heap.size≤w1.heap.size:=by
 have:=h0.size;rwa [bl_size,bl_size] at this
theorem trueB:(⟨#[116,114,117,101]⟩:ByteArray).data.toList=trueL:=rfl
theorem falseB:(⟨#[102,97,108,115,101]⟩:ByteArray).data.toList=falseL:=rfl
def armTok(bad:Bool):List Tk→PR (List UInt8)
 | t::r'=>if(!bad && (t.k==2))=true then .ok t.s r' else .bad (t::r')
 | []=>.bad []
theorem arm_tok(h:PSt w b A n c all r bad)(h1:(!bad && isP trueL r)=false)(h2:(!bad && isP falseL r)=false):
 startP bad r (armP r)=armTok bad r:=by
 cases bad with
 | true=>
  obtain⟨t,r',rfl⟩:=h.fin.cons_;rfl
 | false=>
  simp only[Bool.not_false,Bool.true_and] at h1 h2;obtain⟨t,r',rfl⟩:=h.fin.cons_;simp only[startP,armP,armTok,h1,h2,Bool.false_eq_true,if_false,Bool.not_false,Bool.true_and,beq_iff_eq]
theorem prArm(h:PSt w b A n c all r bad):
 Calls Tryz.prog 64 #[.pointer (some ⟨b,0,none⟩)] w (PostS w b A n c all (startP bad r (armP r))):=by
 have HP:=Hd h;have HA:=Hd fun(h1:(!bad && isP trueL r)=false) (h2:(!bad && isP falseL r)=false)=>arm_tok h h1 h2;have HT1:=Hd (prTake ⟨#[116,114,117,101]⟩ h);rw[trueB] at HT1
 have HR1:=Hd fun(hx:(!bad && isP trueL r)=true)=>(show bad=false∧startP bad r (armP r)=.ok trueL (takeR trueL bad r) by
  have hbad:bad=false:=by cases bad <;> simp at hx ⊢
  subst hbad;have hi:isP trueL r=true:=by simpa using hx
  exact⟨rfl,by simp[startP,armP,takeR,hi]⟩)
 have HR2:=Hd fun(hy:(!bad && isP trueL r)=false) (hx:(!bad && isP falseL r)=true)=>(show bad=false∧startP bad r (armP r)=.ok falseL (takeR falseL bad r) by
  have hbad:bad=false:=by cases bad <;> simp at hx ⊢
  subst hbad;have hi:isP falseL r=true:=by simpa using hx
  have hj:isP trueL r=false:=by simpa using hy
  exact⟨rfl,by simp[startP,armP,takeR,hi,hj]⟩)
 have HN1:=Hd fun(hy:(!bad && isP trueL r)=false)=>(show takeR trueL bad r=r by simp[takeR,hy]);have HN2:=Hd fun(hy:(!bad && isP falseL r)=false)=>(show takeR falseL bad r=r by simp[takeR,hy]);clear h
 cases h1:(!bad && isP trueL r) with
 | true=>
  obtain⟨rfl,hE⟩:=HR1.out h1;rw[h1] at HT1;rw[hE];clear h1 hE HA HR2 HN1 HN2 HR1;generalize takeR trueL false r=r' at *
  go_enter Tryz.func64,Tryz.ntmps64
  go_wp2_with fail
  refine HT1.out.mono ?_;rintro e w1 ⟨rfl,hP,hB⟩;have HP1:=Hd hP;have HB1:=Hd hB;clear hP hB
  go_wp2_with fail
  go_ret
  exact⟨HB1.out,HP1.out,rfl⟩
 | false=>
  have hn1:=HN1.out h1;rw[h1,hn1] at HT1;have H2:=Hd (HR2.out h1);have HA2:=Hd (HA.out h1);clear hn1 h1 HR1 HR2 HN1 HA
  cases h2:(!bad && isP falseL r) with
  | true=>
   obtain⟨rfl,hE⟩:=H2.out h2;rw[hE];have HT2:=Hd fun w1 (hP:PSt w1 b A n c all r false)=>prTake ⟨#[102,97,108,115,101]⟩ hP;rw[falseB,h2] at HT2;clear h2 hE HA2 H2 HN2;generalize takeR falseL false r=r' at *
   go_enter Tryz.func64,Tryz.ntmps64
   go_wp2_with fail
   refine HT1.out.mono ?_;rintro e w1 ⟨rfl,hP,hB⟩;have HP1:=Hd hP;have HB1:=Hd hB;clear hP hB
   go_wp2_with fail
   refine(HT2.out w1 HP1.out).mono ?_;rintro e w3 ⟨rfl,hP,hB⟩;have HP3:=Hd hP;have HB3:=Hd (kb_trans HB1.out hB);clear hP hB
   go_wp2_with fail
   go_ret
   exact⟨HB3.out,HP3.out,rfl⟩
  | false=>
   have hn2:=HN2.out h2;have HE:=Hd (HA2.out h2);have HT2:=Hd fun w1 (hP:PSt w1 b A n c all r bad)=>prTake ⟨#[102,97,108,115,101]⟩ hP;rw[falseB,h2,hn2] at HT2;clear h2 hn2 HN2 HA2 H2;obtain⟨t,r',hr⟩:=HP.out.fin.cons_;subst hr;have HE2:=Hd (show startP bad (t::r') (armP (t::r'))=if(!bad && (t.k==2))=true then .ok t.s r' else .bad (t::r') from HE.out);clear HE HP
   cases bad with
   | true=>
    rw[show startP true (t::r') (armP (t::r'))=.bad (t::r') from HE2.out];clear HE2
    go_enter Tryz.func64,Tryz.ntmps64
    go_wp2_with fail
    refine HT1.out.mono ?_;rintro e w1 ⟨rfl,hP,hB⟩;have HP1:=Hd hP;have HB1:=Hd hB;clear hP hB
    go_wp2_with fail
    refine(HT2.out w1 HP1.out).mono ?_;rintro e w3 ⟨rfl,hP,hB⟩;have HB3:=Hd (kb_trans HB1.out hB);clear hB;obtain⟨t2,r2,b0,off,i,j,e2,HTF⟩:=hP.tokF;injection e2 with e2 e3;subst e2 e3;have HT:=Hd HTF;obtain rfl:=HTF.a;have q0:=HTF.q0;have q1:=HTF.q1;have hbl:=HTF.lb;have hb0:=HTF.l0;have hmx:=HTF.mx;have hi:=HTF.lt;have t0:=HTF.t0;have t1:=HTF.t1;have t2:=HTF.t2;have t3:=HTF.t3;have hadd:=HTF.add;have hi0:(0:Int)≤(i:Int):=by omega
    have hi1:(i:Int)<(n:Int):=by omega
    have hw:IntKind.i64.wrap ((i:Int)+1)=j:=by rw[hadd,IntKind.wrap_i64];have:=HTF.jn;omega
    have HK:=Hd fun w1 h1 (hk:t.k=2)=>HT.out.nx w1 h1 (by omega);clear hP HTF;generalize hts:ofB t.s=ts at *;have HTS:=Hd hts;clear hts;generalize t.k=k at *;generalize t.n=tn at *;generalize t.a=ta at *
    go_upto_region 5 with(fail)
    go_region
    generalize hw5:(w3.alloc _).drew=w5;obtain⟨hb5,hg5,u0,u1,u2⟩:=tok_box hw5;have HB5:=Hd hb5;have p1:=HT.out.p1 w5 hb5;have p2:=HT.out.p2 w5 hb5;have f1:=HT.out.fz w5 hb5 1;have f2:=HT.out.fz w5 hb5 2;clear hw5 hb5;have hne:¬ w3.heap.size=b:=by omega
    have hne2:¬ b=w3.heap.size:=by omega
    go_wp2_with fail
    go_ret
    exact⟨kb_trans HB3.out (by rw[bl_set];exact bl_of HB5.out),(HT.out.st _ HB5.out).fail,_,rfl⟩
   | false=>
    cases h1:(t.k != 2) with
    | true=>
     have h1':(t.k==2)=false:=by simpa [bne] using h1
     rw[show startP false (t::r') (armP (t::r'))=.bad (t::r') by rw[HE2.out,h1'];rfl];clear HE2 h1'
     go_enter Tryz.func64,Tryz.ntmps64
     go_wp2_with fail
     refine HT1.out.mono ?_;rintro e w1 ⟨rfl,hP,hB⟩;have HP1:=Hd hP;have HB1:=Hd hB;clear hP hB
     go_wp2_with fail
     refine(HT2.out w1 HP1.out).mono ?_;rintro e w3 ⟨rfl,hP,hB⟩;have HB3:=Hd (kb_trans HB1.out hB);clear hB;obtain⟨t2,r2,b0,off,i,j,e2,HTF⟩:=hP.tokF;injection e2 with e2 e3;subst e2 e3;have HT:=Hd HTF;obtain rfl:=HTF.a;have q0:=HTF.q0;have q1:=HTF.q1;have hbl:=HTF.lb;have hb0:=HTF.l0;have hmx:=HTF.mx;have hi:=HTF.lt;have t0:=HTF.t0;have t1:=HTF.t1;have t2:=HTF.t2;have t3:=HTF.t3;have hadd:=HTF.add;have hi0:(0:Int)≤(i:Int):=by omega
     have hi1:(i:Int)<(n:Int):=by omega
     have hw:IntKind.i64.wrap ((i:Int)+1)=j:=by rw[hadd,IntKind.wrap_i64];have:=HTF.jn;omega
     have HK:=Hd fun w1 h1 (hk:t.k=2)=>HT.out.nx w1 h1 (by omega);clear hP HTF;generalize hts:ofB t.s=ts at *;have HTS:=Hd hts;clear hts;generalize t.k=k at *;generalize t.n=tn at *;generalize t.a=ta at *
     go_upto_region 5 with(fail)
     go_region
     generalize hw5:(w3.alloc _).drew=w5;obtain⟨hb5,hg5,u0,u1,u2⟩:=tok_box hw5;have HB5:=Hd hb5;have p1:=HT.out.p1 w5 hb5;have p2:=HT.out.p2 w5 hb5;have f1:=HT.out.fz w5 hb5 1;have f2:=HT.out.fz w5 hb5 2;clear hw5 hb5;have hne:¬ w3.heap.size=b:=by omega
     have hne2:¬ b=w3.heap.size:=by omega
     go_wp2_with fail
     go_ret
     exact⟨kb_trans HB3.out (by rw[bl_set];exact bl_of HB5.out),(HT.out.st _ HB5.out).fail,_,rfl⟩
    | false=>
     have h1':t.k=2:=by simpa using h1
     rw[show startP false (t::r') (armP (t::r'))=.ok t.s r' by rw[HE2.out,h1'];rfl];clear HE2;have HK2:=Hd h1';clear h1'
     go_enter Tryz.func64,Tryz.ntmps64
     go_wp2_with fail
     refine HT1.out.mono ?_;rintro e w1 ⟨rfl,hP,hB⟩;have HP1:=Hd hP;have HB1:=Hd hB;clear hP hB
     go_wp2_with fail
     refine(HT2.out w1 HP1.out).mono ?_;rintro e w3 ⟨rfl,hP,hB⟩;have HB3:=Hd (kb_trans HB1.out hB);clear hB;obtain⟨t2,r2,b0,off,i,j,e2,HTF⟩:=hP.tokF;injection e2 with e2 e3;subst e2 e3;have HT:=Hd HTF;obtain rfl:=HTF.a;have q0:=HTF.q0;have q1:=HTF.q1;have hbl:=HTF.lb;have hb0:=HTF.l0;have hmx:=HTF.mx;have hi:=HTF.lt;have t0:=HTF.t0;have t1:=HTF.t1;have t2:=HTF.t2;have t3:=HTF.t3;have hadd:=HTF.add;have hi0:(0:Int)≤(i:Int):=by omega
     have hi1:(i:Int)<(n:Int):=by omega
     have hw:IntKind.i64.wrap ((i:Int)+1)=j:=by rw[hadd,IntKind.wrap_i64];have:=HTF.jn;omega
     have HK:=Hd fun w1 h1 (hk:t.k=2)=>HT.out.nx w1 h1 (by omega);clear hP HTF;generalize hts:ofB t.s=ts at *;have HTS:=Hd hts;clear hts;have HN:=Hd fun w1 h1=>HK.out w1 h1 HK2.out;clear HK HK2;generalize t.k=k at *;generalize t.n=tn at *;generalize t.a=ta at *
     go_upto_region 5 with(fail)
     go_region
     generalize hw5:(w3.alloc _).drew=w5;obtain⟨hb5,hg5,u0,u1,u2⟩:=tok_box hw5;have HB5:=Hd hb5;have p1:=HT.out.p1 w5 hb5;have p2:=HT.out.p2 w5 hb5;have f1:=HT.out.fz w5 hb5 1;have f2:=HT.out.fz w5 hb5 2;clear hw5 hb5;have hne:¬ w3.heap.size=b:=by omega
     have hne2:¬ b=w3.heap.size:=by omega
     go_wp2_with fail
     go_ret
     have hwj:wrap64 j=j:=by have:=HT.out.jn;unfold wrap64;omega
     (try rw[hwj])
     exact⟨kb_trans HB3.out (by rw[bl_set];exact bl_of HB5.out),HN.out _ HB5.out,congrArg (fun z=>Ending.returned (.string z)) HTS.out.symm⟩
end
end
section
open Go.RowKit Go.Sort
theorem RdT.up{w w':World}{A:Option Addr}{n:Nat}{ss:List ByteArray}(h:RdT w A n ss)(hs:w.heap.size≤w'.heap.size)(hk:∀ p v,w.cell? p=some v→w'.cell? p=some v):RdT w' A n ss:=
 ⟨h.1,h.2.1,fun hn=>by
  obtain⟨b,off,e,hb,hc⟩:=h.2.2 hn;exact⟨b,off,e,by omega,fun i hi=>hk _ _ (hc i hi)⟩⟩
mutual
theorem rdX_up{w w':World}(hs:w.heap.size≤w'.heap.size)(hk:∀ p v,w.cell? p=some v→w'.cell? p=some v):∀ (x:Ex) (A B:Option Addr),rdX w x A B→rdX w' x A B
 | .mk _ _ _ _ arms subs,A,B,h=>by
  simp only[rdX] at h ⊢;refine⟨h.1.up hs hk,h.2.1,fun hn=>?_⟩;obtain⟨b,off,e,hb,hr⟩:=h.2.2 hn;exact⟨b,off,e,by omega,rdXs_up hs hk subs b off hr⟩
theorem rdXs_up{w w':World}(hs:w.heap.size≤w'.heap.size)(hk:∀ p v,w.cell? p=some v→w'.cell? p=some v):∀ (l:List Ex) (b off:Nat),rdXs w l b off→rdXs w' l b off
 | [],_,_,_=>by simp only[rdXs]
 | x::l,b,off,h=>by
  simp only[rdXs] at h ⊢;obtain⟨⟨A,ca,B,cb,h1,h2⟩,h3⟩:=h;exact⟨⟨A,ca,B,cb,fun j v hv=>hk _ _ (h1 j v hv),rdX_up hs hk x A B h2⟩,rdXs_up hs hk l b (off+6) h3⟩
end
def fr(B:Nat)(w:World):World:={ w with heap:=w.heap.mapIdx fun i o=>if i<B then .cells #[] 0 else o }
theorem fr_size{B:Nat}{w:World}:(fr B w).heap.size=w.heap.size:=by simp[fr]
theorem fr_cell{B:Nat}{w:World}{p:Addr}(h:B≤p.block):(fr B w).cell? p=w.cell? p:=by
 unfold World.cell? fr;simp only[Array.getElem?_mapIdx]
 cases w.heap[p.block]? with
 | none=>rfl
 | some o=>simp[Nat.not_lt.2 h]
theorem fr_some{B:Nat}{w:World}{p:Addr}{v:Value}(h:(fr B w).cell? p=some v):w.cell? p=some v∧B≤p.block:=by
 by_cases hp:B≤p.block
 · exact⟨by rwa [fr_cell hp] at h,hp⟩
 · unfold World.cell? fr at h;simp only[Array.getElem?_mapIdx] at h
   cases hh:w.heap[p.block]? with
   | none=>rw[hh] at h;cases h
   | some o=>
    rw[hh] at h;simp only[Option.map_some,if_pos (Nat.not_le.1 hp)] at h
    split at h <;> simp at h
def Kp(B:Nat)(w w':World):Prop:=w.heap.size≤w'.heap.size∧∀ p v,B≤p.block→w.cell? p=some v→w'.cell? p=some v
theorem Kp.refl(B:Nat)(w:World):Kp B w w:=⟨Nat.le_refl _,fun _ _ _ h=>h⟩
theorem Kp.trans{B:Nat}{a b c:World}(h:Kp B a b)(k:Kp B b c):Kp B a c:=⟨Nat.le_trans h.1 k.1,fun p v hp hv=>k.2 p v hp (h.2 p v hp hv)⟩
theorem Kp.tree{B:Nat}{w w':World}(h:Kp B w w'){x:Ex}{A' B':Option Addr}(hx:rdX (fr B w) x A' B'):rdX (fr B w') x A' B' :=
 rdX_up (by rw[fr_size,fr_size];exact h.1) (fun p v hp=>by
  obtain⟨h1,h2⟩:=fr_some hp;rw[fr_cell h2];exact h.2 p v h2 h1) x A' B' hx
theorem tree_down{B B2:Nat}{w:World}{x:Ex}{A' B':Option Addr}(h:rdX (fr B2 w) x A' B')(hb:B≤B2):rdX (fr B w) x A' B' :=
 rdX_up (by rw[fr_size,fr_size];exact Nat.le_refl _) (fun p v hp=>by
  obtain⟨h1,h2⟩:=fr_some hp;rw[fr_cell (by omega)];exact h1) x A' B' h
theorem Kp.of_kb{B b:Nat}{w w':World}(h:Below w.heap.size (bl b w) (bl b w'))(hb:b<B):Kp B w w':=by
 refine⟨by have:=h.size;rwa [bl_size,bl_size] at this,fun p v hp hv=>?_⟩;have hlt:p.block<w.heap.size:=World.block_lt_of_cell? w p hv;have h1:=h.block p.block hlt;rw[bl_block (by omega),bl_block (by omega)] at h1;unfold World.cell? at hv ⊢;rwa [h1]
theorem Kp.alloc(B:Nat)(w:World)(o:Obj):Kp B w (w.alloc o):=⟨by simp,fun p v _ hv=>by
 rw[World.cell?_alloc_lt _ _ _ (World.block_lt_of_cell? w p hv)];exact hv⟩
theorem Kp.setRow{B g:Nat}(w:World)(cs:Array Value)(hg:g<B):Kp B w (w.setRow g cs):=⟨by simp,fun p v hp hv=>by
 rw[cell_setRow_other _ _ _ _ (by omega)];exact hv⟩
theorem rdX_nil(w:World)(k n:Int)(s:ByteArray)(op:Int):rdX w (.mk k n s op [] []) none none:=by
 rw[rdX_eq];exact⟨RdT.nil_ _,RdX.nil_ _⟩
abbrev PostX(w:World)(b:Nat)(A:Option Addr)(n c:Nat)(all:List Tk)(g:PR Ex):Ending→World→Prop:=
 PPost w b A n c all g (fun x w' e=>∃ A' ca B' cb,e=.returned (.agg (exA x A' ca B' cb))∧rdX (fr w.heap.size w') x A' B') (fun e=>∃ x A' ca B' cb,e=.returned (.agg (exA x A' ca B' cb)))
def SpecX(F:Nat)(g:Psr)(m:Nat):Prop:=∀ (w:World) (b:Nat) (A:Option Addr) (n c:Nat) (all r:List Tk),PSt w b A n c all r false→r.length≤m →
 Calls Tryz.prog F #[.pointer (some ⟨b,0,none⟩)] w (PostX w b A n c all (g r))
section
variable {w w1 w':World}{b:Nat}{A:Option Addr}{n c:Nat}{all r:List Tk}{bad:Bool}
theorem PPost.ok_{v:World}{P:Program}{F:Nat}{args:Array Value}{α:Type}{g:PR α}{V:α→World→Ending→Prop}{X:Ending→Prop}{a:α}{r:List Tk}(h:Calls P F args v (PPost w b A n c all g V X))(e:g=.ok a r):
 Calls P F args v fun e w'=>V a w' e∧PSt w' b A n c all r false∧Below w.heap.size (bl b w) (bl b w'):=by
 subst e;exact h.mono fun e w' h=>⟨h.2.2,h.2.1,h.1⟩
theorem PPost.bad_{v:World}{P:Program}{F:Nat}{args:Array Value}{α:Type}{g:PR α}{V:α→World→Ending→Prop}{X:Ending→Prop}{r:List Tk}(h:Calls P F args v (PPost w b A n c all g V X))(e:g=.bad r):
 Calls P F args v fun e w'=>X e∧PSt w' b A n c all r true∧Below w.heap.size (bl b w) (bl b w'):=by
 subst e;exact h.mono fun e w' h=>⟨h.2.2,h.2.1,h.1⟩
theorem take_yes(s:ByteArray)(h:PSt w b A n c all r false)(e:isP s.data.toList r=true):
 Calls Tryz.prog 61 #[.pointer (some ⟨b,0,none⟩),.string s] w fun e w'=>e=.returned (.bool true)∧PSt w' b A n c all r.tail false∧Below w.heap.size (bl b w) (bl b w'):=by
 have h1:=prTake s h;have h2:takeR s.data.toList false r=r.tail:=by simp[takeR,e]
 rw[h2,e] at h1;exact h1
theorem take_no(s:ByteArray)(h:PSt w b A n c all r bad)(e:(!bad && isP s.data.toList r)=false):
 Calls Tryz.prog 61 #[.pointer (some ⟨b,0,none⟩),.string s] w fun e w'=>e=.returned (.bool false)∧PSt w' b A n c all r bad∧Below w.heap.size (bl b w) (bl b w'):=by
 have h1:=prTake s h;have h2:takeR s.data.toList bad r=r:=by simp[takeR,e]
 rw[h2,e] at h1;exact h1
theorem res_ex{fn:Func}{p:Tmp}(h:fn.results=#[.cell p 26])(tmps:Array Value)(w:World)(g:Nat)(cs:Array Value)(hs:cs.size=6)
 (hp:tmps.getD p undef=.pointer (some ⟨g,0,none⟩)) (hg:w.heap[g]?=some (Obj.cells cs 26)):(results fn tmps).run Tryz.prog w=.ok (.agg cs) w:=
 results_cell_row h tmps w g _ _ _ _ hp hg Tryz.underlying26 rfl (by rw[hs];exact ex_info)
def RowX(w:World)(g:Nat)(x:Ex)(A:Option Addr)(ca:Nat)(B:Option Addr)(cb:Nat):Prop:=w.heap[g]?=some (Obj.cells (exA x A ca B cb) 26)
def zX:Ex:=.mk 0 0 ByteArray.empty 0 [] []
theorem RowX.lt{g:Nat}{x:Ex}{A:Option Addr}{ca:Nat}{B:Option Addr}{cb:Nat}(h:RowX w g x A ca B cb):g<w.heap.size:=(Array.getElem?_eq_some_iff.1 h).1
theorem RowX.kb{g:Nat}{x:Ex}{A':Option Addr}{ca:Nat}{B:Option Addr}{cb:Nat}(h:RowX w g x A' ca B cb)(hg:g≠b)(hb:Below w.heap.size (bl b w) (bl b w')):RowX w' g x A' ca B cb:=by
 have h1:=hb.block g h.lt;rw[bl_block hg,bl_block hg] at h1;exact h1.trans h
theorem RowX.alloc{g:Nat}{x:Ex}{A':Option Addr}{ca:Nat}{B:Option Addr}{cb:Nat}(h:RowX w g x A' ca B cb)(o:Obj):RowX (w.alloc o) g x A' ca B cb:=by
 unfold RowX;rw[Below.heap_alloc _ _ _ h.lt];exact h
theorem RowX.set{g:Nat}{x y:Ex}{A' A2:Option Addr}{ca ca2:Nat}{B B2:Option Addr}{cb cb2:Nat}(h:RowX w g x A' ca B cb):RowX (w.setRow g (exA y A2 ca2 B2 cb2)) g y A2 ca2 B2 cb2:=setRow_heap _ _ _ _ _ _ h
theorem kb_setRow{g:Nat}(h:Below w.heap.size (bl b w) (bl b w1))(hg:g≠b)(hw:w.heap.size≤g)(cs:Array Value):Below w.heap.size (bl b w) (bl b (w1.setRow g cs)):=by
 rw[bl_setRow hg];exact below_setRow h hw cs
theorem kb_alloc(h:Below w.heap.size (bl b w) (bl b w1))(hb:b<w1.heap.size)(o:Obj):Below w.heap.size (bl b w) (bl b (w1.alloc o)):=by
 rw[bl_alloc hb];exact h.alloc (by have:=h.size;rw[bl_size] at this;omega) o
theorem PSt.alloc(h:PSt w b A n c all r bad)(o:Obj):PSt (w.alloc o) b A n c all r bad:=h.below ((Below.refl _ _).alloc (Nat.le_refl _) o)
theorem PSt.setRow(h:PSt w b A n c all r bad){g:Nat}(hg:g≠b)(hA:∀ b0 off,A=some ⟨b0,off,none⟩→b0≠g)(cs:Array Value):PSt (w.setRow g cs) b A n c all r bad:=by
 refine⟨(setRow_other _ _ _ _ (Ne.symm hg)).trans h.row,?_,h.len,h.pre,h.fin⟩;obtain⟨h1,h2,h3⟩:=h.rd;refine⟨h1,h2,fun hn=>?_⟩;obtain⟨b0,off,e,hlt,hc⟩:=h3 hn;refine⟨b0,off,e,by rw[bl_size,setRow_size];rwa [bl_size] at hlt,fun i hi=>?_⟩
 have hx:∀ p:Addr,p.block=b0→(bl b (w.setRow g cs)).cell? p=(bl b w).cell? p:=fun p hp=>by
  rw[bl_setRow hg,cell_setRow_other _ _ _ _ (by rw[hp];exact hA b0 off e)]
 obtain⟨c0,c1,c2,c3⟩:=hc i hi;exact⟨(hx _ rfl).trans c0,(hx _ rfl).trans c1,(hx _ rfl).trans c2,(hx _ rfl).trans c3⟩
theorem PSt.home(h:PSt w b A n c all r bad):∀ b0 off,A=some ⟨b0,off,none⟩→b0<w.heap.size:=fun b0 off e=>by
 obtain⟨t,r',b1,o1,_,e1,_,hlt,_⟩:=h.tok;rw[e] at e1;injection e1 with e1;injection e1 with e1 _;omega
theorem rangeAt_exL{v:World}{g o:Nat}{x:Ex}{A':Option Addr}{ca:Nat}{B:Option Addr}{cb:Nat}{cs:Array Value}(hc:∀ j,v.cell? ⟨g,j,none⟩=cs[j]?)(h:∀ j u,(exL x A' ca B cb)[j]?=some u→cs[o+j]?=some u):v.rangeAt g o (exL x A' ca B cb):=fun j u hj=>by
 show v.cell? _=some u
 rw[hc];exact h j u hj
theorem RdX.in_fr{B g:Nat}{w:World}{l:List Ex}(h:B≤g)(hl:l.length≤9223372036854775807)(hg:g<w.heap.size)(hr:rdXs (fr B w) l g 0):RdX (fr B w) (some ⟨g,0,none⟩) l.length l:=
 ⟨rfl,hl,fun _=>⟨g,0,rfl,by rw[fr_size];exact hg,hr⟩⟩
theorem lit_one{B:Nat}{v:World}{x:Ex}{A1:Option Addr}{ca1:Nat}{B1:Option Addr}{cb1:Nat}(hB:B≤v.heap.size)(h:rdX (fr B v) x A1 B1)(T:TypeId):
 rdXs (fr B (v.alloc (.cells (exA x A1 ca1 B1 cb1) T))) [x] v.heap.size 0:=by
 have hc:∀ j,(fr B (v.alloc (.cells (exA x A1 ca1 B1 cb1) T))).cell? ⟨v.heap.size,j,none⟩=(exA x A1 ca1 B1 cb1)[j]?:=fun j=>by
  rw[fr_cell hB];exact World.cell?_alloc_new v _ _ j
 simp only[rdXs];exact⟨⟨A1,ca1,B1,cb1,rangeAt_exL hc (fun j u hj=>by rw[Nat.zero_add,← exL_A,List.getElem?_toArray];exact hj),(Kp.alloc B v _).tree h⟩,trivial⟩
def exA2(x:Ex)(A1:Option Addr)(ca1:Nat)(B1:Option Addr)(cb1:Nat)(y:Ex)(A2:Option Addr)(ca2:Nat)(B2:Option Addr)(cb2:Nat):Array Value:=
 #[.int .i64 x.k,.int .i64 x.n,.string x.s,.int .i64 x.op,.slice A1 x.arms.length ca1,.slice B1 x.subs.length cb1,.int .i64 y.k,.int .i64 y.n,.string y.s,.int .i64 y.op,.slice A2 y.arms.length ca2,.slice B2 y.subs.length cb2]
theorem lit_two{B:Nat}{v:World}{x y:Ex}{A1 A2:Option Addr}{ca1 ca2:Nat}{B1 B2:Option Addr}{cb1 cb2:Nat}(hB:B≤v.heap.size)(h:rdX (fr B v) x A1 B1)(k:rdX (fr B v) y A2 B2)(T:TypeId):
 rdXs (fr B (v.alloc (.cells (exA2 x A1 ca1 B1 cb1 y A2 ca2 B2 cb2) T))) [x,y] v.heap.size 0:=by
 have hc:∀ j,(fr B (v.alloc (.cells (exA2 x A1 ca1 B1 cb1 y A2 ca2 B2 cb2) T))).cell? ⟨v.heap.size,j,none⟩=(exA2 x A1 ca1 B1 cb1 y A2 ca2 B2 cb2)[j]?:=fun j=>by
  rw[fr_cell hB];exact World.cell?_alloc_new v _ _ j
 simp only[rdXs];refine⟨⟨A1,ca1,B1,cb1,rangeAt_exL hc (fun j u hj=>?_),(Kp.alloc B v _).tree h⟩,⟨A2,ca2,B2,cb2,rangeAt_exL hc (fun j u hj=>?_),(Kp.alloc B v _).tree k⟩,trivial⟩
 · match j,hj with
   | 0,hj | 1,hj | 2,hj | 3,hj | 4,hj | 5,hj=>exact hj
 · match j,hj with
   | 0,hj | 1,hj | 2,hj | 3,hj | 4,hj | 5,hj=>exact hj
end
end
end Go.Proofs.YtokiaaapgkdpmaaGreatDoor
