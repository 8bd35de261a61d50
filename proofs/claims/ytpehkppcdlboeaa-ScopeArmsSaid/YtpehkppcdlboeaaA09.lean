/- Parts of the proof: PgP, PgI, SlR, PhC, PiA, PiB, PiC, PiF, ScM. Conditions: each theorem's own. -/
import Derived.Shelf.Spec.SlicesGrow
import Derived.Ground.Names8Prog
import Derived.Shelf.Strings.Search1
import Derived.Test.YtpehkppcdlboeaaA08
namespace Go.Proofs.Ytpehkppcdlboeaa
set_option linter.unusedVariables false
set_option linter.unusedSimpArgs false
set_option maxRecDepth 100000
set_option maxHeartbeats 40000000
section
open Go.RowKit Go.Sort
theorem tiny_sizeX{x:Ex}(h:tinyX x=true):sizeX x≤1000000:=by
 simp only [tinyX,Bool.and_eq_true,decide_eq_true_eq] at h;omega
theorem tiny_shortX{x:Ex}(h:tinyX x=true):∀ p∈partsX x,ShortP p:=by
 simp only [tinyX,Bool.and_eq_true,List.all_eq_true] at h;exact fun p hp=>ShortP.of_few (h.2 p hp)
theorem TinyQ.ok{q:Qn}(h:TinyQ q):OkQ q:=by
 refine⟨fun s hs=>?_,tiny_sizeX h.2.1,tiny_shortX h.2.1⟩;obtain⟨j,hj,rfl⟩:=List.getElem_of_mem hs;have:=h.2.2 j hj;rw [List.getElem?_eq_getElem hj,Option.getD_some] at this;unfold maxLen;omega
theorem fewD_ok{l:List Dc}(h:fewD l=true):(∀ d∈l,OkD d)∧l.length≤20:=by
 simp only [fewD,Bool.and_eq_true,List.all_eq_true,decide_eq_true_eq] at h;refine⟨fun d hd=>?_,h.2⟩;have h1:=h.1 d hd;simp only [dcFew,Bool.and_eq_true,Bool.not_eq_true',decide_eq_false_iff_not] at h1;unfold OkD maxLen;omega
theorem TinyN.len{n:Nd}(h:TinyN n):n.all.length≤60:=by
 have h1:=(fewD_ok h.1).2;have h2:=(fewD_ok h.2.1).2;have h3:=(fewD_ok h.2.2.1).2;rw [all_len];omega
theorem TinyN.ok{n:Nd}(h:TinyN n):OkN n:=by
 refine⟨by have:=h.2.2.2.2.1;unfold maxLen;omega,fun d hd=>?_,fun q hq=>?_⟩
 · simp only [Nd.all,List.mem_append] at hd;rcases hd with(hd | hd) | hd
   · exact(fewD_ok h.1).1 d hd
   · exact(fewD_ok h.2.1).1 d hd
   · exact(fewD_ok h.2.2.1).1 d hd
 · obtain⟨j,hj,rfl⟩:=List.getElem_of_mem hq;have:=h.2.2.2.2.2 j hj;rw [List.getElem?_eq_getElem hj,Option.getD_some] at this;exact this.ok
def rightN(es:Nat) (l:List Nd):Bool:=l.all (nodeB es rightB rightX)
def onceN(l:List Nd):Bool:=l.all fun n=>onceS (namesD n.all)
def checkN(p:Pg):Int:=
 if enumsN p.es=0 then(if p.ns.length=0 then 5 else if 6<p.ns.length then 4 else if p.ns.any manyN then 4 else if rightN p.es.length p.ns then(if onceN p.ns && onceS (p.ns.map Nd.nm) then 0 else 6) else 1) else enumsN p.es
theorem nms_succ{l:List Nd}{k:Nat}(hk:k<l.length):(l.map Nd.nm).take (k+1)=(l.map Nd.nm).take k++[(l[k]?.getD default).nm]:=by
 rw [List.take_add_one,List.getElem?_map,List.getElem?_eq_getElem hk]
 simp
end
section
open Go.RowKit Go.Sort
section
variable {P:Program}{w:World}
theorem wpList_append_dc{ops:Array Oper}{rest:List Oper}{o:Oper}{a:Act}{Q:Exit→Act→World→Prop}(hgd:o.guard=none) (s x:Operand) (t:TypeId)
 (ho:o.op=.call { callee:=.builtin .append,args:=#[s,x],argTypes:=#[t,t] })
 (base:Nat) (e:TypeId) (i:TypeInfo) (z:Value) (bytes:Nat) (ht:P.underlying t=some (.slice e)) (hi:P.info? e=some i) (hz:i.zero=some z)
 (hsize:i.size=6) (hby:i.bytes=bytes) (hzs:z.cells.size=6)
 (v:Value) (n:Nat) (xs:List Dc) (hs:a.eval s=v) (hown:w.ownsRow base e 6 v n (flD xs))
 (A:Option Addr) (m c:Nat) (l:List Dc) (hx:a.eval x=.slice A m c) (hr:RdD w A m l)
 (h63:n+m≤maxLen) (hbytes:(n+m)*bytes≤140737488355328) (hbase:base≤w.heap.size)
 (h:∀ v' w',w'.ownsRow base e 6 v' (n+m) (flD (xs++l))→w.grownBy w' v.ownBlock→wpList P ops Q rest (a.put o.dst v') w'):wpList P ops Q (o::rest) a w:=by
 obtain⟨hA,hnews⟩:=hr.news;have hlen:=RdS.len hr;rcases A with _ | ad
 · obtain rfl:m=0:=hA rfl;obtain rfl:l=[]:=List.eq_nil_of_length_eq_zero hlen;refine wpList_plain hgd fun K hK=>?_;have hrun:=run_append_nil (P:=P) (w:=w) base t o.type e i 6 ht hi v n _ hown c;unfold Oper.wp
   simp [execOp,ho,resolve,invoke,builtin,hs,hx,hrun,Result.andThen]
   exact hK _ _ (h v w (by simpa using hown) (World.grownBy.refl w _))
 · exact wpList_append_own_at w hgd s x t ho base e i z 6 bytes ht hi hz hsize hby hzs (by decide) v n _ hs hown ad m c (flD l) hx (by rw [flD_len,hlen]) (fun j u hu=>hnews ad rfl j u hu) (flD_ones l) h63 hbytes hbase fun v' w' h1 h2 _ _=>h v' w' (by rw [flD_app];exact h1) h2
end
theorem RowD.cells{w:World}{g:Nat}{d:Dc}(h:RowD w g d) (j:Nat):w.cell? ⟨g,j,none⟩=(dcA d)[j]?:=by
 unfold World.cell?;rw [show w.heap[(⟨g,j,none⟩:Addr).block]?=_ from h];rfl
def ClockAt(x:Nd) (out:Option (List Dc)) (w:World) (k:Nat) (t:ByteArray) (v:Value):Prop:=
 ∃ acc A c,v=.slice A acc.length c∧RdD w A acc.length acc∧acc.length=k∧clockR x (13-k) t acc=out
theorem ClockAt.below{x:Nd}{out:Option (List Dc)}{w w':World}{k:Nat}{t:ByteArray}{v:Value}(h:ClockAt x out w k t v) (hb:Below w.heap.size w w'):ClockAt x out w' k t v:=by
 obtain⟨acc,A,c,e,h1,h2⟩:=h;exact⟨acc,A,c,e,h1.below hb,h2⟩
end
section
open Go.Shelf Go.RowKit Go.Lib Go.Sort
def growD_ren:Go.Shelf.Ren:=⟨fun | 4=>56 | n=>n,fun | 22=>38 | 25=>45 | 3=>3 | 4=>4 | 9=>9 | 20=>20 | 0=>0 | n=>n,fun | n=>n⟩
theorem growD:Go.Proofs.Lays8.n4 Try.prog growD_ren:={
 mixed:=by kernel_rfl
 f4:=⟨Try.f56.name,by decide,Try.func56.trans (congrArg some (by kernel_rfl))⟩
 t0:=Try.underlying0
 a0:=Try.isAgg0
 z0:=Try.sizeOf0
 v0:=Try.zeroValue0
 t3:=Try.underlying3
 a3:=Try.isAgg3
 z3:=Try.sizeOf3
 v3:=Try.zeroValue3
 t4:=Try.underlying4
 a4:=Try.isAgg4
 z4:=Try.sizeOf4
 v4:=Try.zeroValue4
 t9:=Try.underlying9
 a9:=Try.isAgg9
 z9:=Try.sizeOf9
 v9:=Try.zeroValue9
 t20:=Try.underlying20
 a20:=Try.isAgg20
 z20:=Try.sizeOf20
 v20:=Try.zeroValue20
 t22:=Try.underlying38
 a22:=Try.isAgg38
 z22:=Try.sizeOf38
 v22:=Try.zeroValue38 }
theorem slGrowD(n:Nat) (w:World) (hn:n≤1000000):
 Calls Try.prog 56 #[.slice none 0 0,.int .i64 n] w fun e w'=>∃ v,e=.returned v∧w'.ownsRow w.heap.size 45 6 v 0 (flD [])∧Below w.heap.size w w':=by
 obtain⟨i0,z0,hi,hz1,hz0,hz2,hz3⟩:=info_three infoDecl;rcases Nat.eq_zero_or_pos n with rfl | hp
 · refine(Any8.slices_Grow_room growD none 0 0 0 w (Nat.le_refl _) (by omega) (by omega) (by omega)).mono ?_;rintro e w' ⟨rfl,rfl⟩;exact⟨_,rfl,⟨rfl,.inl ⟨rfl,rfl⟩⟩,Below.refl _ _⟩
 · refine(Any8.slices_Grow_grow growD i0 z0 hi hz1 (by omega) none 0 0 n [] w (Nat.le_refl _) (by omega) (by rw [hz2];omega) (by omega) (by simp) (fun _=>rfl) (fun a h=>by cases h)).mono ?_;rintro e w' ⟨rfl,rfl⟩;refine⟨_,rfl,⟨rfl,.inr ⟨w.heap.size,_,_,rfl,Nat.le_refl _,heap_alloc_new _ _,Nat.zero_le _,?_,?_,?_⟩⟩,?_⟩
   · exact grownCap_le_maxLen _ _ _ _ (by unfold maxLen;omega)
   · have:=grownCap_ge w (0+n) 0 45
     show(_:Array Value).size=grownCap w (0+n) 0 45*6
     simp only [Array.size_append,size_zeroCells,hz3,List.size_toArray,List.length_nil];rw [show growD_ren.t 25=45 from rfl];omega
   · rfl
   · exact(Below.refl _ _).drew.alloc (Nat.le_refl _) _
end
section
open Go.RowKit Go.Sort
theorem own_below{w w':World}{base:Nat}{e:TypeId}{size n:Nat}{v:Value}{xs:List Value}(h:w.ownsRow base e size v n xs) (hb:Below w.heap.size w w'):w'.ownsRow base e size v n xs:=by
 refine⟨h.1,?_⟩;rcases h.2 with h2 | ⟨g,cap,cur,hv,hg,hh,hr⟩
 · exact .inl h2
 · exact .inr ⟨g,cap,cur,hv,hg,(hb.block g (Array.getElem?_eq_some_iff.1 hh).1).trans hh,hr⟩
end
section
open Go.RowKit Go.Sort
theorem findI_any{α:Type}(f:α→Bool):∀ (l:List α),decide ((0:Int)≤findI f l 0)=l.any f:=by
 have key:∀ (l:List α) (i:Nat),decide ((0:Int)≤findI f l i)=l.any f:=by
  intro l
  induction l with
  | nil=>intro i;simp [findI]
  | cons a l ih=>
   intro i;rw [findI]
   cases ha:f a with
   | true=>simp [ha]
   | false=>simp only [List.any_cons,ha,Bool.false_or];rw [if_neg (by simp)];exact ih (i+1)
 exact fun l=>key l 0
theorem findI_hitS{f:ByteArray→Bool}:∀ {l:List ByteArray}{k i:Nat},k<l.length→(∀ j,j<k→f (l[j]?.getD ByteArray.empty)=false)→f (l[k]?.getD ByteArray.empty)=true→findI f l i=((i+k:Nat):Int)
 | [],k,i,h,_,_=>by simp at h
 | a::l,0,i,_,_,h=>by
  have h:f a=true:=by simpa using h
  simp [findI,h]
 | a::l,k+1,i,hk,hn,h=>by
  have h0:f a=false:=by simpa using hn 0 (by omega)
  rw [findI,h0,if_neg (by simp),findI_hitS (k:=k) (by simpa using hk) (fun j hj=>by simpa using hn (j+1) (by omega)) (by simpa using h)]
  congr 1
  omega
theorem findI_noneS{f:ByteArray→Bool}:∀ {l:List ByteArray}{i:Nat},(∀ j,j<l.length→f (l[j]?.getD ByteArray.empty)=false)→findI f l i=-1
 | [],i,_=>rfl
 | a::l,i,hn=>by
  have h0:f a=false:=by simpa using hn 0 (by simp)
  rw [findI,h0,if_neg (by simp)];exact findI_noneS fun j hj=>by simpa using hn (j+1) (by simpa using hj)
theorem nd_at{w:World}{A:Option Addr}{n i:Nat}{l:List Nd}(h:RdNs w A n l) (hi:i<n):
 ∃ b off A1 c1 A2 c2 A3 c3 A4 c4,A=some ⟨b,off,none⟩∧b<w.heap.size∧rdN w (l[i]?.getD default) A1 A2 A3 A4 ∧
 w.cell? ⟨b,off+i*5,none⟩=some (.string (l[i]?.getD default).nm)∧w.cell? ⟨b,off+i*5+1,none⟩=some (.slice A1 (l[i]?.getD default).ins.length c1)∧w.cell? ⟨b,off+i*5+2,none⟩=some (.slice A2 (l[i]?.getD default).outs.length c2)∧w.cell? ⟨b,off+i*5+3,none⟩=some (.slice A3 (l[i]?.getD default).vars.length c3)∧w.cell? ⟨b,off+i*5+4,none⟩=some (.slice A4 (l[i]?.getD default).eqs.length c4):=by
 obtain⟨b,off,e,hb,hc⟩:=RdS.at_ h (by omega);obtain⟨A1,c1,A2,c2,A3,c3,A4,c4,h1,h2⟩:=hc i hi;obtain⟨d0,d1,d2,d3,d4⟩:=ndL_five h1;exact⟨b,off,A1,c1,A2,c2,A3,c3,A4,c4,e,hb,h2,d0,d1,d2,d3,d4⟩
theorem qn_at{w:World}{A:Option Addr}{n i:Nat}{l:List Qn}(h:RdQ w A n l) (hi:i<n):
 ∃ b off,∃ B c A' ca B' cb,A=some ⟨b,off,none⟩∧b<w.heap.size∧(RdT w B (l[i]?.getD default).ns.length (l[i]?.getD default).ns∧rdX w (l[i]?.getD default).x A' B') ∧
  w.cell? ⟨b,off+i*7,none⟩=some (.slice B (l[i]?.getD default).ns.length c)∧w.cell? ⟨b,off+i*7+1,none⟩=some (.int .i64 (l[i]?.getD default).x.k)∧w.cell? ⟨b,off+i*7+2,none⟩=some (.int .i64 (l[i]?.getD default).x.n) ∧
  w.cell? ⟨b,off+i*7+3,none⟩=some (.string (l[i]?.getD default).x.s)∧w.cell? ⟨b,off+i*7+4,none⟩=some (.int .i64 (l[i]?.getD default).x.op)∧w.cell? ⟨b,off+i*7+5,none⟩=some (.slice A' (l[i]?.getD default).x.arms.length ca)∧w.cell? ⟨b,off+i*7+6,none⟩=some (.slice B' (l[i]?.getD default).x.subs.length cb):=by
 obtain⟨b,off,e,hb,hc⟩:=RdS.at_ h (by omega);obtain⟨B,c,A',ca,B',cb,h0,h1,h2,h3⟩:=hc i hi;obtain⟨c0,c1,c2,c3,c4,c5⟩:=rangeAt_six h2;exact⟨b,off,B,c,A',ca,B',cb,e,hb,⟨h1,h3⟩,h0,c0,c1,c2,c3,c4,c5⟩
theorem dc_at{w:World}{A:Option Addr}{n i:Nat}{l:List Dc}(h:RdD w A n l) (hi:i<n):
 ∃ b off,A=some ⟨b,off,none⟩∧b<w.heap.size∧w.cell? ⟨b,off+i*6,none⟩=some (.string (l[i]?.getD default).nm)∧w.cell? ⟨b,off+i*6+1,none⟩=some (.int .i64 (l[i]?.getD default).k)∧w.cell? ⟨b,off+i*6+2,none⟩=some (.int .i64 (l[i]?.getD default).e) ∧
  w.cell? ⟨b,off+i*6+3,none⟩=some (.int .i64 (l[i]?.getD default).l)∧w.cell? ⟨b,off+i*6+4,none⟩=some (.string (l[i]?.getD default).on)∧w.cell? ⟨b,off+i*6+5,none⟩=some (.string (l[i]?.getD default).ct):=by
 obtain⟨b,off,e,hb,hc⟩:=RdS.at_ h (by omega);exact⟨b,off,e,hb,(hc i hi).six⟩
def PredNd(g:Nat) (lb:Array Value) (f:Nd→Bool) (l:List Nd) (w:World):Prop:=
 ∀ x,x∈l→∀ (A1:Option Addr) (c1:Nat) (A2:Option Addr) (c2:Nat) (A3:Option Addr) (c3:Nat) (A4:Option Addr) (c4:Nat) (W:World),Below w.heap.size w W→rdN W x A1 A2 A3 A4 →
  Calls Try.prog g (#[.agg (ndA x A1 c1 A2 c2 A3 c3 A4 c4)]++lb) W fun e w'=>e=.returned (.bool (f x))∧Below W.heap.size W w'
theorem slIndexNd(g:Nat) (lb:Array Value) (eg:∀ args w,(callFunc g args).run Try.prog w=.ok (.enter g args) w) (f:Nd→Bool) (A:Option Addr) (n c:Nat) (l:List Nd) (w:World) (h:RdNs w A n l) (hf:PredNd g lb f l w):
 Calls Try.prog 41 #[.slice A n c,.func (.func g) #[] lb] w fun e w'=>e=.returned (.int .i64 (findI f l 0))∧Below w.heap.size w w':=by
 have HR:=Hd h;have HP:=Hd hf;have hln:=RdS.len h;have hmx:=RdS.max h;have HHIT:=Hd (fun(k:Nat) hk hn hy=>show findI f l 0=(k:Int) by have:=findI_hit (l:=l) (f:=f) (k:=k) (i:=0) hk hn hy;rwa [Nat.zero_add] at this);have HNO:=Hd (fun hn=>show findI f l 0=-1 from findI_none (l:=l) (f:=f) (i:=0) hn);generalize findI f l 0=out at *;have HLN:=Hd hln;clear h hf hln;unfold PredNd at HP
 go_enter Try.func41,Try.ntmps41
 go_wp2_with fail
 go_loopw [5,8] (fun _ i wr=>∃ k:Nat,k≤n∧i=.int .i64 k∧(∀ j,j<k→f (l[j]?.getD default)=false)∧Below w.heap.size w wr) (fun _ i _=>n-(intOf i).toNat)
 case atStart=>exact⟨0,Nat.zero_le _,rfl,fun j hj=>absurd hj (by omega),Below.refl _ _⟩
 case round=>
  obtain⟨k,hk,rfl,hto,hnx⟩:=hrel;have HT:=Hd hto;have HNX:=Hd hnx;clear hto
  by_cases hlt:k<n
  · obtain⟨b,off,A1,c1,A2,c2,A3,c3,A4,c4,rfl,hb,hrd,d0,d1,d2,d3,d4⟩:=nd_at (HR.out.below hnx) hlt;have HCL:=Hd (HP.out _ (getD_memA (by rw [HLN.out];exact hlt)) A1 c1 A2 c2 A3 c3 A4 c4 wr hnx hrd);have HH:=Hd (HHIT.out k (by rw [HLN.out];exact hlt) HT.out);have HS:=Hd fun(hf:f (l[k]?.getD default)=false)=>to_next (P:=fun j=>f (l[j]?.getD default)=false) HT.out hf;clear hnx  hrd;unfold ndA at HCL;generalize l[k]?.getD default=x at d0 d1 d2 d3 d4 HCL HH HS
    cases hq:f x with
    | true=>
     have HO:=Hd (HH.out hq);rw [hq] at HCL
     go_wp2_with (go_at_fn g;refine HCL.out.mono ?_;rintro e w3 ⟨rfl,hb3⟩)
     go_ret
     exact⟨ret_int HO.out.symm,HNX.out.trans (hb3.mono HNX.out.size)⟩
    | false=>
     have HO:=Hd (HS.out hq);rw [hq] at HCL
     go_wp2_with (go_at_fn g;refine HCL.out.mono ?_;rintro e w3 ⟨rfl,hb3⟩;have HB3:=Hd (HNX.out.trans (hb3.mono HNX.out.size));clear hb3)
     go_roundw
     case rel=>exact⟨k+1,by omega,by go_num,HO.out,HB3.out⟩
     case measure=>simp [intOf];omega
  · have hkn:k=n:=by omega
    have HN:=Hd (HNO.out fun j hj=>HT.out j (by rw [HLN.out] at hj;omega))
    go_wp2_with fail
    go_ret
    exact⟨ret_int HN.out.symm,HNX.out⟩
theorem slHasNd(g:Nat) (lb:Array Value) (eg:∀ args w,(callFunc g args).run Try.prog w=.ok (.enter g args) w) (f:Nd→Bool) (A:Option Addr) (n c:Nat) (l:List Nd) (w:World) (h:RdNs w A n l) (hf:PredNd g lb f l w):
 Calls Try.prog 28 #[.slice A n c,.func (.func g) #[] lb] w fun e w'=>e=.returned (.bool (l.any f))∧Below w.heap.size w w':=by
 have HI:=Hd (slIndexNd g lb eg f A n c l w h hf);have HA:=Hd (findI_any f l);clear h hf
 go_enter Try.func28,Try.ntmps28
 go_wp2_with fail
 refine HI.out.mono ?_;rintro e w2 ⟨rfl,hb2⟩;have HB2:=Hd hb2;clear hb2
 cases ha:l.any f with
 | true=>
  rw [ha] at HA;have d0:decide ((0:Int)≤findI f l 0)=true:=HA.out
  go_wp2_with fail
  go_ret
  exact⟨ret_bool ha.symm,HB2.out⟩
 | false=>
  rw [ha] at HA;have d0:decide ((0:Int)≤findI f l 0)=false:=HA.out
  go_wp2_with fail
  go_ret
  exact⟨ret_bool ha.symm,HB2.out⟩
def PredDc(g:Nat) (lb:Array Value) (f:Dc→Bool) (l:List Dc) (w:World):Prop:=
 ∀ x,x∈l→∀ (W:World),Below w.heap.size w W →
  Calls Try.prog g (#[.agg (dcA x)]++lb) W fun e w'=>e=.returned (.bool (f x))∧Below W.heap.size W w'
theorem slIndexDc(g:Nat) (lb:Array Value) (eg:∀ args w,(callFunc g args).run Try.prog w=.ok (.enter g args) w) (f:Dc→Bool) (A:Option Addr) (n c:Nat) (l:List Dc) (w:World) (h:RdD w A n l) (hf:PredDc g lb f l w):
 Calls Try.prog 57 #[.slice A n c,.func (.func g) #[] lb] w fun e w'=>e=.returned (.int .i64 (findI f l 0))∧Below w.heap.size w w':=by
 have HR:=Hd h;have HP:=Hd hf;have hln:=RdS.len h;have hmx:=RdS.max h;have HHIT:=Hd (fun(k:Nat) hk hn hy=>show findI f l 0=(k:Int) by have:=findI_hit (l:=l) (f:=f) (k:=k) (i:=0) hk hn hy;rwa [Nat.zero_add] at this);have HNO:=Hd (fun hn=>show findI f l 0=-1 from findI_none (l:=l) (f:=f) (i:=0) hn);generalize findI f l 0=out at *;have HLN:=Hd hln;clear h hf hln;unfold PredDc at HP
 go_enter Try.func57,Try.ntmps57
 go_wp2_with fail
 go_loopw [5,8] (fun _ i wr=>∃ k:Nat,k≤n∧i=.int .i64 k∧(∀ j,j<k→f (l[j]?.getD default)=false)∧Below w.heap.size w wr) (fun _ i _=>n-(intOf i).toNat)
 case atStart=>exact⟨0,Nat.zero_le _,rfl,fun j hj=>absurd hj (by omega),Below.refl _ _⟩
 case round=>
  obtain⟨k,hk,rfl,hto,hnx⟩:=hrel;have HT:=Hd hto;have HNX:=Hd hnx;clear hto
  by_cases hlt:k<n
  · obtain⟨b,off,rfl,hb,d0,d1,d2,d3,d4,d5⟩:=dc_at (HR.out.below hnx) hlt;have HCL:=Hd (HP.out _ (getD_memA (by rw [HLN.out];exact hlt))  wr hnx);have HH:=Hd (HHIT.out k (by rw [HLN.out];exact hlt) HT.out);have HS:=Hd fun(hf:f (l[k]?.getD default)=false)=>to_next (P:=fun j=>f (l[j]?.getD default)=false) HT.out hf;clear hnx;unfold dcA at HCL;generalize l[k]?.getD default=x at d0 d1 d2 d3 d4 d5 HCL HH HS
    cases hq:f x with
    | true=>
     have HO:=Hd (HH.out hq);rw [hq] at HCL
     go_wp2_with (go_at_fn g;refine HCL.out.mono ?_;rintro e w3 ⟨rfl,hb3⟩)
     go_ret
     exact⟨ret_int HO.out.symm,HNX.out.trans (hb3.mono HNX.out.size)⟩
    | false=>
     have HO:=Hd (HS.out hq);rw [hq] at HCL
     go_wp2_with (go_at_fn g;refine HCL.out.mono ?_;rintro e w3 ⟨rfl,hb3⟩;have HB3:=Hd (HNX.out.trans (hb3.mono HNX.out.size));clear hb3)
     go_roundw
     case rel=>exact⟨k+1,by omega,by go_num,HO.out,HB3.out⟩
     case measure=>simp [intOf];omega
  · have hkn:k=n:=by omega
    have HN:=Hd (HNO.out fun j hj=>HT.out j (by rw [HLN.out] at hj;omega))
    go_wp2_with fail
    go_ret
    exact⟨ret_int HN.out.symm,HNX.out⟩
theorem slHasDc(g:Nat) (lb:Array Value) (eg:∀ args w,(callFunc g args).run Try.prog w=.ok (.enter g args) w) (f:Dc→Bool) (A:Option Addr) (n c:Nat) (l:List Dc) (w:World) (h:RdD w A n l) (hf:PredDc g lb f l w):
 Calls Try.prog 36 #[.slice A n c,.func (.func g) #[] lb] w fun e w'=>e=.returned (.bool (l.any f))∧Below w.heap.size w w':=by
 have HI:=Hd (slIndexDc g lb eg f A n c l w h hf);have HA:=Hd (findI_any f l);clear h hf
 go_enter Try.func36,Try.ntmps36
 go_wp2_with fail
 refine HI.out.mono ?_;rintro e w2 ⟨rfl,hb2⟩;have HB2:=Hd hb2;clear hb2
 cases ha:l.any f with
 | true=>
  rw [ha] at HA;have d0:decide ((0:Int)≤findI f l 0)=true:=HA.out
  go_wp2_with fail
  go_ret
  exact⟨ret_bool ha.symm,HB2.out⟩
 | false=>
  rw [ha] at HA;have d0:decide ((0:Int)≤findI f l 0)=false:=HA.out
  go_wp2_with fail
  go_ret
  exact⟨ret_bool ha.symm,HB2.out⟩
def PredQn(g:Nat) (lb:Array Value) (f:Qn→Bool) (l:List Qn) (w:World):Prop:=
 ∀ x,x∈l→∀ (B:Option Addr) (c:Nat) (A:Option Addr) (ca:Nat) (D:Option Addr) (cb:Nat) (W:World),Below w.heap.size w W→RdT W B x.ns.length x.ns∧rdX W x.x A D →
  Calls Try.prog g (#[.agg (qnA x B c A ca D cb)]++lb) W fun e w'=>e=.returned (.bool (f x))∧Below W.heap.size W w'
theorem slIndexQn(g:Nat) (lb:Array Value) (eg:∀ args w,(callFunc g args).run Try.prog w=.ok (.enter g args) w) (f:Qn→Bool) (A:Option Addr) (n c:Nat) (l:List Qn) (w:World) (h:RdQ w A n l) (hf:PredQn g lb f l w):
 Calls Try.prog 68 #[.slice A n c,.func (.func g) #[] lb] w fun e w'=>e=.returned (.int .i64 (findI f l 0))∧Below w.heap.size w w':=by
 have HR:=Hd h;have HP:=Hd hf;have hln:=RdS.len h;have hmx:=RdS.max h;have HHIT:=Hd (fun(k:Nat) hk hn hy=>show findI f l 0=(k:Int) by have:=findI_hit (l:=l) (f:=f) (k:=k) (i:=0) hk hn hy;rwa [Nat.zero_add] at this);have HNO:=Hd (fun hn=>show findI f l 0=-1 from findI_none (l:=l) (f:=f) (i:=0) hn);generalize findI f l 0=out at *;have HLN:=Hd hln;clear h hf hln;unfold PredQn at HP
 go_enter Try.func68,Try.ntmps68
 go_wp2_with fail
 go_loopw [5,8] (fun _ i wr=>∃ k:Nat,k≤n∧i=.int .i64 k∧(∀ j,j<k→f (l[j]?.getD default)=false)∧Below w.heap.size w wr) (fun _ i _=>n-(intOf i).toNat)
 case atStart=>exact⟨0,Nat.zero_le _,rfl,fun j hj=>absurd hj (by omega),Below.refl _ _⟩
 case round=>
  obtain⟨k,hk,rfl,hto,hnx⟩:=hrel;have HT:=Hd hto;have HNX:=Hd hnx;clear hto
  by_cases hlt:k<n
  · obtain⟨b,off,B,cB,A1,ca,D,cb,rfl,hb,hrd,d0,d1,d2,d3,d4,d5,d6⟩:=qn_at (HR.out.below hnx) hlt;have HCL:=Hd (HP.out _ (getD_memA (by rw [HLN.out];exact hlt)) B cB A1 ca D cb wr hnx hrd);have HH:=Hd (HHIT.out k (by rw [HLN.out];exact hlt) HT.out);have HS:=Hd fun(hf:f (l[k]?.getD default)=false)=>to_next (P:=fun j=>f (l[j]?.getD default)=false) HT.out hf;clear hnx  hrd;unfold qnA at HCL;generalize l[k]?.getD default=x at d0 d1 d2 d3 d4 d5 d6 HCL HH HS
    cases hq:f x with
    | true=>
     have HO:=Hd (HH.out hq);rw [hq] at HCL
     go_wp2_with (go_at_fn g;refine HCL.out.mono ?_;rintro e w3 ⟨rfl,hb3⟩)
     go_ret
     exact⟨ret_int HO.out.symm,HNX.out.trans (hb3.mono HNX.out.size)⟩
    | false=>
     have HO:=Hd (HS.out hq);rw [hq] at HCL
     go_wp2_with (go_at_fn g;refine HCL.out.mono ?_;rintro e w3 ⟨rfl,hb3⟩;have HB3:=Hd (HNX.out.trans (hb3.mono HNX.out.size));clear hb3)
     go_roundw
     case rel=>exact⟨k+1,by omega,by go_num,HO.out,HB3.out⟩
     case measure=>simp [intOf];omega
  · have hkn:k=n:=by omega
    have HN:=Hd (HNO.out fun j hj=>HT.out j (by rw [HLN.out] at hj;omega))
    go_wp2_with fail
    go_ret
    exact⟨ret_int HN.out.symm,HNX.out⟩
theorem slHasQn(g:Nat) (lb:Array Value) (eg:∀ args w,(callFunc g args).run Try.prog w=.ok (.enter g args) w) (f:Qn→Bool) (A:Option Addr) (n c:Nat) (l:List Qn) (w:World) (h:RdQ w A n l) (hf:PredQn g lb f l w):
 Calls Try.prog 51 #[.slice A n c,.func (.func g) #[] lb] w fun e w'=>e=.returned (.bool (l.any f))∧Below w.heap.size w w':=by
 have HI:=Hd (slIndexQn g lb eg f A n c l w h hf);have HA:=Hd (findI_any f l);clear h hf
 go_enter Try.func51,Try.ntmps51
 go_wp2_with fail
 refine HI.out.mono ?_;rintro e w2 ⟨rfl,hb2⟩;have HB2:=Hd hb2;clear hb2
 cases ha:l.any f with
 | true=>
  rw [ha] at HA;have d0:decide ((0:Int)≤findI f l 0)=true:=HA.out
  go_wp2_with fail
  go_ret
  exact⟨ret_bool ha.symm,HB2.out⟩
 | false=>
  rw [ha] at HA;have d0:decide ((0:Int)≤findI f l 0)=false:=HA.out
  go_wp2_with fail
  go_ret
  exact⟨ret_bool ha.symm,HB2.out⟩
def PredT(g:Nat) (lb:Array Value) (f:ByteArray→Bool) (l:List ByteArray) (w:World):Prop:=
 ∀ x,x∈l→∀ (W:World),Below w.heap.size w W →
  Calls Try.prog g (#[.string x]++lb) W fun e w'=>e=.returned (.bool (f x))∧Below W.heap.size W w'
theorem slIndexT(g:Nat) (lb:Array Value) (eg:∀ args w,(callFunc g args).run Try.prog w=.ok (.enter g args) w) (f:ByteArray→Bool) (A:Option Addr) (n c:Nat) (l:List ByteArray) (w:World) (h:RdT w A n l) (hf:PredT g lb f l w):
 Calls Try.prog 76 #[.slice A n c,.func (.func g) #[] lb] w fun e w'=>e=.returned (.int .i64 (findI f l 0))∧Below w.heap.size w w':=by
 have HR:=Hd h;have HP:=Hd hf;have hln:=RdT.len h;have hmx:=RdT.max h;have HHIT:=Hd (fun(k:Nat) hk hn hy=>show findI f l 0=(k:Int) by have:=findI_hitS (l:=l) (f:=f) (k:=k) (i:=0) hk hn hy;rwa [Nat.zero_add] at this);have HNO:=Hd (fun hn=>show findI f l 0=-1 from findI_noneS (l:=l) (f:=f) (i:=0) hn);generalize findI f l 0=out at *;have HLN:=Hd hln;clear h hf hln;unfold PredT at HP
 go_enter Try.func76,Try.ntmps76
 go_wp2_with fail
 go_loopw [5,8] (fun _ i wr=>∃ k:Nat,k≤n∧i=.int .i64 k∧(∀ j,j<k→f (l[j]?.getD ByteArray.empty)=false)∧Below w.heap.size w wr) (fun _ i _=>n-(intOf i).toNat)
 case atStart=>exact⟨0,Nat.zero_le _,rfl,fun j hj=>absurd hj (by omega),Below.refl _ _⟩
 case round=>
  obtain⟨k,hk,rfl,hto,hnx⟩:=hrel;have HT:=Hd hto;have HNX:=Hd hnx;clear hto
  by_cases hlt:k<n
  · obtain⟨b,off,rfl,hb,hc⟩:=(HR.out.below hnx).at_ hlt;have d0:=hc k hlt;have HCL:=Hd (HP.out _ (getD_mem (by rw [HLN.out];exact hlt))  wr hnx);have HH:=Hd (HHIT.out k (by rw [HLN.out];exact hlt) HT.out);have HS:=Hd fun(hf:f (l[k]?.getD ByteArray.empty)=false)=>to_next (P:=fun j=>f (l[j]?.getD ByteArray.empty)=false) HT.out hf;clear hnx hc
    skip
    generalize l[k]?.getD ByteArray.empty=x at d0 HCL HH HS
    cases hq:f x with
    | true=>
     have HO:=Hd (HH.out hq);rw [hq] at HCL
     go_wp2_with (go_at_fn g;refine HCL.out.mono ?_;rintro e w3 ⟨rfl,hb3⟩)
     go_ret
     exact⟨ret_int HO.out.symm,HNX.out.trans (hb3.mono HNX.out.size)⟩
    | false=>
     have HO:=Hd (HS.out hq);rw [hq] at HCL
     go_wp2_with (go_at_fn g;refine HCL.out.mono ?_;rintro e w3 ⟨rfl,hb3⟩;have HB3:=Hd (HNX.out.trans (hb3.mono HNX.out.size));clear hb3)
     go_roundw
     case rel=>exact⟨k+1,by omega,by go_num,HO.out,HB3.out⟩
     case measure=>simp [intOf];omega
  · have hkn:k=n:=by omega
    have HN:=Hd (HNO.out fun j hj=>HT.out j (by rw [HLN.out] at hj;omega))
    go_wp2_with fail
    go_ret
    exact⟨ret_int HN.out.symm,HNX.out⟩
theorem slHasT(g:Nat) (lb:Array Value) (eg:∀ args w,(callFunc g args).run Try.prog w=.ok (.enter g args) w) (f:ByteArray→Bool) (A:Option Addr) (n c:Nat) (l:List ByteArray) (w:World) (h:RdT w A n l) (hf:PredT g lb f l w):
 Calls Try.prog 70 #[.slice A n c,.func (.func g) #[] lb] w fun e w'=>e=.returned (.bool (l.any f))∧Below w.heap.size w w':=by
 have HI:=Hd (slIndexT g lb eg f A n c l w h hf);have HA:=Hd (findI_any f l);clear h hf
 go_enter Try.func70,Try.ntmps70
 go_wp2_with fail
 refine HI.out.mono ?_;rintro e w2 ⟨rfl,hb2⟩;have HB2:=Hd hb2;clear hb2
 cases ha:l.any f with
 | true=>
  rw [ha] at HA;have d0:decide ((0:Int)≤findI f l 0)=true:=HA.out
  go_wp2_with fail
  go_ret
  exact⟨ret_bool ha.symm,HB2.out⟩
 | false=>
  rw [ha] at HA;have d0:decide ((0:Int)≤findI f l 0)=false:=HA.out
  go_wp2_with fail
  go_ret
  exact⟨ret_bool ha.symm,HB2.out⟩
end
section
open Go.RowKit Go.Sort
theorem tyRight(A:Option Addr) (n c:Nat) (k e l:Int) (w:World) (hn:n≤9223372036854775807):
 Calls Try.prog 47 #[.slice A n c,tyV k e l] w fun r w'=>r=.returned (.bool (rightB n k e l))∧Below w.heap.size w w':=by
 unfold tyV;have HB:=Hd ((Below.refl w.heap.size w).alloc (Nat.le_refl _) (.cells #[.int .i64 k,.int .i64 e,.int .i64 l] 26))
 by_cases h1:l<0
 · go_enter Try.func47,Try.ntmps47
   go_wp2_with fail
   go_ret
   exact⟨ret_bool (right_len (.inl h1)).symm,HB.out⟩
 · by_cases h2:8<l
   · go_enter Try.func47,Try.ntmps47
     go_wp2_with fail
     go_ret
     exact⟨ret_bool (right_len (.inr h2)).symm,HB.out⟩
   · have hl:0≤l∧l≤8:=by omega
     have HL:=Hd hl;clear hl
     by_cases k1:k=1
     · have HE:=Hd (right_base (n:=n) (e:=e) HL.out (.inl k1));subst k1
       go_enter Try.func47,Try.ntmps47
       go_wp2_with fail
       go_ret
       exact⟨ret_bool (by rw [HE.out,Bool.eq_iff_iff];simp),HB.out⟩
     · by_cases k2:k=2
       · have HE:=Hd (right_base (n:=n) (e:=e) HL.out (.inr k2));subst k2
         go_enter Try.func47,Try.ntmps47
         go_wp2_with fail
         go_ret
         exact⟨ret_bool (by rw [HE.out,Bool.eq_iff_iff];simp),HB.out⟩
       · by_cases k3:k=3
         · have HE:=Hd (right_enum (n:=n) (e:=e) HL.out k3);subst k3
           by_cases e0:0≤e
           all_goals
            go_enter Try.func47,Try.ntmps47
            go_wp2_with fail
            go_ret
            exact⟨ret_bool (by rw [HE.out,Bool.eq_iff_iff];simp;omega),HB.out⟩
         · have HE:=Hd (right_kind (n:=n) (e:=e) (l:=l) (by omega) k3);have b1:(k==1)=false:=by simpa using k1
           have b2:(k==2)=false:=by simpa using k2
           have b3:(k==3)=false:=by simpa using k3
           go_enter Try.func47,Try.ntmps47
           go_wp2_with fail
           go_ret
           exact⟨ret_bool HE.out.symm,HB.out⟩
theorem low_empty{s:ByteArray}(h:noB s=true):lowB s.data.toList=false:=by
 have h:s.data.toList=[]:=by simpa [noB] using h
 rw [h];rfl
def timedB(d:Dc):Bool:=if noB d.on then noB d.ct else lowB d.on.data.toList && armT d.ct
theorem decl_timed(n:Nat) (d:Dc):declB n rightB d=(lowB d.nm.data.toList && rightB n d.k d.e d.l && timedB d):=by
 unfold declB timedB
 cases h:noB d.on with
 | true=>rw [low_empty h];simp
 | false=>simp
theorem pgArm(s:ByteArray) (w:World) (hs:s.size≤9223372036854775807):
 Calls Try.prog 67 #[.string s] w fun e w'=>e=.returned (.bool (armT s))∧Below w.heap.size w w':=by
 have HH:=Hd (idHigh s w hs);have HE:=Hd (show armT s=(highB s.data.toList || (s.toList==[116,114,117,101]) || (s.toList==[102,97,108,115,101])) by rw [Lib.toList_data];rfl);generalize armT s=out at *;generalize highB s.data.toList=b at *
 cases b with
 | true=>
  go_enter Try.func67,Try.ntmps67
  go_wp2_with fail
  refine HH.out.mono ?_;rintro e w2 ⟨rfl,hb2⟩;have HB2:=Hd hb2;clear hb2
  go_wp2_with fail
  go_ret
  exact⟨ret_bool (by rw [HE.out];rfl),HB2.out⟩
 | false=>
  cases h1:(s.toList==[116,114,117,101]) with
  | true=>
   rw [h1] at HE
   go_enter Try.func67,Try.ntmps67
   go_wp2_with fail
   refine HH.out.mono ?_;rintro e w2 ⟨rfl,hb2⟩;have HB2:=Hd hb2;clear hb2
   go_wp2_with fail
   go_ret
   exact⟨ret_bool (by rw [HE.out];rfl),HB2.out⟩
  | false=>
   rw [h1] at HE
   cases h2:(s.toList==[102,97,108,115,101]) with
   | true=>
    rw [h2] at HE
    go_enter Try.func67,Try.ntmps67
    go_wp2_with fail
    refine HH.out.mono ?_;rintro e w2 ⟨rfl,hb2⟩;have HB2:=Hd hb2;clear hb2
    go_wp2_with fail
    go_ret
    exact⟨ret_bool (by rw [HE.out];rfl),HB2.out⟩
   | false=>
    rw [h2] at HE
    go_enter Try.func67,Try.ntmps67
    go_wp2_with fail
    refine HH.out.mono ?_;rintro e w2 ⟨rfl,hb2⟩;have HB2:=Hd hb2;clear hb2
    go_wp2_with fail
    go_ret
    exact⟨ret_bool (by rw [HE.out];rfl),HB2.out⟩
theorem pgTimed(d:Dc) (w:World) (ho:OkD d):
 Calls Try.prog 48 #[.agg (dcA d)] w fun e w'=>e=.returned (.bool (timedB d))∧Below w.heap.size w w':=by
 have HF:=Hd fun w1 hw=>dc_facts w d w1 hw;have HL:=Hd fun w1=>idLow d.on w1 (by have:=ho.2.1;unfold maxLen at this;omega);have HA:=Hd fun w1=>pgArm d.ct w1 (by have:=ho.2.2;unfold maxLen at this;omega);have HE:=Hd (show timedB d=if(d.on.toList==[]) then(d.ct.toList==[]) else lowB d.on.data.toList && armT d.ct by rw [Lib.toList_data,Lib.toList_data];rfl);clear ho;unfold dcA at HF ⊢;generalize timedB d=out at *;generalize lowB d.on.data.toList=lb at *;generalize armT d.ct=ab at *
 go_enter Try.func48,Try.ntmps48
 go_upto_region 1 with(fail)
 generalize hw1:w.alloc _=w1;obtain⟨hb1,hg,hcell⟩:=HF.out w1 hw1;have HB1:=Hd hb1;have HC:=Hd hcell;have q2:=hcell w1 (Below.refl _ _) 4;have q3:=hcell w1 (Below.refl _ _) 5;simp only [Ya,Yb,Yc] at q2 q3;clear hw1 hcell hb1 HF
 cases h1:(d.on.toList==[]) with
 | true=>
  rw [h1,if_pos rfl] at HE;generalize hc:(d.ct.toList==[])=cb at *
  go_wp2_with fail
  go_ret
  exact⟨ret_bool HE.out.symm,HB1.out⟩
 | false=>
  rw [h1,if_neg (by simp)] at HE
  cases lb with
  | false=>
   go_wp2_with fail
   refine(HL.out w1).mono ?_;rintro e w2 ⟨rfl,hb2⟩;have HB2:=Hd (HB1.out.trans (hb2.mono HB1.out.size));clear hb2 q2 q3
   go_wp2_with fail
   go_ret
   exact⟨ret_bool HE.out.symm,HB2.out⟩
  | true=>
   go_wp2_with fail
   refine(HL.out w1).mono ?_;rintro e w2 ⟨rfl,hb2⟩;have HB2:=Hd (HB1.out.trans (hb2.mono HB1.out.size));have p3:=HC.out w2 hb2 5;simp only [Ya,Yb,Yc] at p3;clear hb2 q2 q3
   go_wp2_with fail
   refine(HA.out w2).mono ?_;rintro e w3 ⟨rfl,hb3⟩;have HB3:=Hd (HB2.out.trans (hb3.mono HB2.out.size));clear hb3 p3
   go_wp2_with fail
   go_ret
   exact⟨ret_bool HE.out.symm,HB3.out⟩
end
section
open Go.RowKit Go.Sort
theorem pgVar(d:Dc) (be:Nat) (E:Option Addr) (ne ec:Nat) (w:World) (ho:OkD d) (hn:ne≤9223372036854775807) (he:w.cell? ⟨be,0,none⟩=some (.slice E ne ec)):
 Calls Try.prog 45 #[.agg (dcA d),.pointer (some ⟨be,0,none⟩)] w fun e w'=>e=.returned (.bool (!declB ne rightB d))∧Below w.heap.size w w':=by
 have HF:=Hd fun w1 hw=>dc_facts w d w1 hw;have HL:=Hd fun w1=>idLow d.nm w1 (by have:=ho.1;unfold maxLen at this;omega);have HR:=Hd fun w1=>tyRight E ne ec d.k d.e d.l w1 hn;have HT:=Hd fun w1=>pgTimed d w1 ho;have HE:=Hd (decl_timed ne d);have HBE:=Hd (World.block_lt_of_cell? _ _ he);have HCE:=Hd he;clear ho he;unfold dcA at HF HT ⊢;unfold tyV at HR;generalize declB ne rightB d=out at *;generalize lowB d.nm.data.toList=lb at *;generalize rightB ne d.k d.e d.l=rb at *;generalize timedB d=tb at *
 go_enter Try.func45,Try.ntmps45
 go_upto_region 1 with(fail)
 generalize hw1:w.alloc _=w1;obtain⟨hb1,hg,hcell⟩:=HF.out w1 hw1;have HB1:=Hd hb1;have HC:=Hd hcell;have q0:=hcell w1 (Below.refl _ _) 0;simp only [Ya,Yb,Yc] at q0;clear hw1 hcell hb1 HF
 cases lb with
 | false=>
  go_wp2_with fail
  refine(HL.out w1).mono ?_;rintro e w2 ⟨rfl,hb2⟩;have HB2:=Hd (HB1.out.trans (hb2.mono HB1.out.size));clear hb2 q0
  go_wp2_with fail
  go_ret
  exact⟨ret_bool (by rw [HE.out];rfl),HB2.out⟩
 | true=>
  go_wp2_with fail
  refine(HL.out w1).mono ?_;rintro e w2 ⟨rfl,hb2⟩;have HB2:=Hd (HB1.out.trans (hb2.mono HB1.out.size));obtain⟨-,p1,p2,p3,-,-⟩:=Sx (HC.out w2 hb2);simp only [Ya,Yb,Yc] at p1 p2 p3;have pe:=(HB2.out.cell (p:=⟨be,0,none⟩) HBE.out).trans HCE.out;have HW2:=Hd hb2;clear hb2 q0
  cases rb with
  | false=>
   go_wp2_with fail
   refine(HR.out w2).mono ?_;rintro e w3 ⟨rfl,hb3⟩;have HB3:=Hd (HB2.out.trans (hb3.mono HB2.out.size));clear hb3 p1 p2 p3 pe
   go_wp2_with fail
   go_ret
   exact⟨ret_bool (by rw [HE.out];rfl),HB3.out⟩
  | true=>
   go_wp2_with fail
   refine(HR.out w2).mono ?_;rintro e w3 ⟨rfl,hb3⟩;have HB3:=Hd (HB2.out.trans (hb3.mono HB2.out.size));have hw3:=HW2.out.trans (hb3.mono HW2.out.size);obtain⟨s0,s1,s2,s3,s4,s5⟩:=Sx (HC.out w3 hw3);simp only [Ya,Yb,Yc] at s0 s1 s2 s3 s4 s5;clear hb3 p1 p2 p3 pe hw3
   go_wp2_with fail
   refine(HT.out w3).mono ?_;rintro e w4 ⟨rfl,hb4⟩;have HB4:=Hd (HB3.out.trans (hb4.mono HB3.out.size));clear hb4 s0 s1 s2 s3 s4 s5;generalize hnt:(!tb)=nt at *
   cases nt with
   | true=>
    go_wp2_with fail
    go_ret
    exact⟨ret_bool (by rw [HE.out];simpa using hnt.symm),HB4.out⟩
   | false=>
    go_wp2_with fail
    go_ret
    exact⟨ret_bool (by rw [HE.out];simpa using hnt.symm),HB4.out⟩
theorem pgPort(d:Dc) (bv be:Nat) (E:Option Addr) (ne ec:Nat) (w:World) (ho:OkD d) (hn:ne≤9223372036854775807) (he:w.cell? ⟨be,0,none⟩=some (.slice E ne ec))
 (hv:w.cell? ⟨bv,0,none⟩=some (.func (.func 45) #[] #[.pointer (some ⟨be,0,none⟩)])):
 Calls Try.prog 49 #[.agg (dcA d),.pointer (some ⟨bv,0,none⟩)] w fun e w'=>e=.returned (.bool (!(declB ne rightB d && noB d.on)))∧Below w.heap.size w w':=by
 have HF:=Hd fun w1 hw=>dc_facts w d w1 hw;have HV:=Hd fun w1 (hb:Below w.heap.size w w1)=>pgVar d be E ne ec w1 ho hn ((hb.cell (p:=⟨be,0,none⟩) (World.block_lt_of_cell? _ _ he)).trans he);have HE:=Hd (show noB d.on=(d.on.toList==[]) by rw [Lib.toList_data];rfl);have HBV:=Hd (World.block_lt_of_cell? _ _ hv);have HCV:=Hd hv;clear ho he hv;unfold dcA at HF HV ⊢;rw [HE.out];clear HE;generalize declB ne rightB d=db at *
 go_enter Try.func49,Try.ntmps49
 go_upto_region 1 with(fail)
 generalize hw1:w.alloc _=w1;obtain⟨hb1,hg,hcell⟩:=HF.out w1 hw1;have HB1:=Hd hb1;have HC:=Hd hcell;have HV1:=Hd (HV.out w1 hb1);have qv:=(hb1.cell (p:=⟨bv,0,none⟩) HBV.out).trans HCV.out;obtain⟨q0,q1,q2,q3,q4,q5⟩:=Sx (hcell w1 (Below.refl _ _));simp only [Ya,Yb,Yc] at q0 q1 q2 q3 q4 q5;clear hw1 hcell hb1 HF HV
 cases db with
 | false=>
  go_wp2_with fail
  refine HV1.out.mono ?_;rintro e w2 ⟨rfl,hb2⟩;have HB2:=Hd (HB1.out.trans (hb2.mono HB1.out.size));clear hb2 q0 q1 q2 q3 q4 q5 qv
  go_wp2_with fail
  go_ret
  exact⟨rfl,HB2.out⟩
 | true=>
  go_wp2_with fail
  refine HV1.out.mono ?_;rintro e w2 ⟨rfl,hb2⟩;have HB2:=Hd (HB1.out.trans (hb2.mono HB1.out.size));have p4:=HC.out w2 hb2 4;simp only [Ya,Yb,Yc] at p4;clear hb2 q0 q1 q2 q3 q4 q5 qv;have hne:(d.on.toList != [])=!(d.on.toList==[]):=rfl
  cases h1:(d.on.toList==[]) with
  | true=>
   rw [h1] at hne
   go_wp2_with fail
   go_ret
   exact⟨ret_bool (by rw [h1];rfl),HB2.out⟩
  | false=>
   rw [h1] at hne
   go_wp2_with fail
   go_ret
   exact⟨ret_bool (by rw [h1];rfl),HB2.out⟩
end
section
open Go.RowKit Go.Sort
def catTo(x:Nd) (k:Nat):List Dc:=match k with | 0=>[] | 1=>x.ins | 2=>x.ins++x.outs | _=>x.all
theorem catTo_succ(x:Nd){k:Nat}(h:k<3):catTo x (k+1)=catTo x k++listK x k:=by
 match k,h with
 | 0,_=>rfl
 | 1,_=>rfl
 | 2,_=>rfl
theorem catTo_le(x:Nd){k:Nat}(h:k≤3):(catTo x k).length≤x.all.length:=by
 match k,h with
 | 0,_=>exact Nat.zero_le _
 | 1,_=>simp [catTo,Nd.all]
 | 2,_=>simp [catTo,Nd.all]
 | 3,_=>exact Nat.le_refl _
theorem slConcatD(x:Nd) (A1:Option Addr) (c1:Nat) (A2:Option Addr) (c2:Nat) (A3:Option Addr) (c3:Nat) (A4:Option Addr) (b:Nat) (w:World) (h:rdN w x A1 A2 A3 A4)
 (hc:∀ j,w.cell? ⟨b,j,none⟩=(lists3 x A1 c1 A2 c2 A3 c3)[j]?) (hb:b<w.heap.size) (hn:x.all.length≤1000):
 Calls Try.prog 35 #[.slice (some ⟨b,0,none⟩) 3 3] w (DeclsPost w x.all.length x.all):=by
 obtain⟨i0,z0,hi,hz1,hz0,hz2,hz3⟩:=info_three infoDecl;have HLS:=Hd fun(w:World) (h:rdN w x A1 A2 A3 A4) (k:Nat) hk=>lists_at (c1:=c1) (c2:=c2) (c3:=c3) h (k:=k) hk;have HC:=Hd hc;have HR:=Hd h;have HB:=Hd hb;have HSU:=Hd fun(k:Nat) hk=>catTo_succ x (k:=k) hk;have HLE:=Hd fun(k:Nat) hk=>(show(catTo x k).length≤1000 from Nat.le_trans (catTo_le x (k:=k) hk) hn);have HEND:=Hd (show catTo x 3=x.all from rfl);have HNIL:=Hd (show catTo x 0=[] from rfl);have HGR:=Hd fun w1=>slGrowD x.all.length w1 (by omega);have HLK:=Hd fun(k:Nat) hk=>(show(catTo x k).length+(listK x k).length≤1000 by rw [← List.length_append,← catTo_succ x hk];exact Nat.le_trans (catTo_le x (k:=k+1) (by omega)) hn);clear h hc hb hn;generalize catTo x=cat at *;generalize x.all=all at *
 go_enter Try.func35,Try.ntmps35
 go_wp2_with fail
 go_loopw [3,11] (fun s i wr=>∃ k:Nat,k≤3∧i=.int .i64 k∧s=.int .i64 (cat k).length∧wr=w) (fun _ i _=>3-(intOf i).toNat)
 case atStart=>exact⟨0,by omega,rfl,by rw [HNIL.out];rfl,rfl⟩
 case round=>
  obtain⟨k,hk,rfl,rfl,rfl⟩:=hrel
  by_cases hlt:k<3
  · obtain⟨A,c,hAk,-⟩:=HLS.out wr HR.out k hlt;have e0:=HC.out k;rw [hAk] at e0;have hlk:=HLK.out k hlt;have HS:=Hd (show(cat (k+1)).length=(cat k).length+(listK x k).length by rw [HSU.out k hlt,List.length_append]);clear hAk;generalize hn1:(cat k).length=n1 at *;generalize hm1:(listK x k).length=m1 at *;have d0:decide (((n1:Int)+(m1:Int))<0)=false:=decide_eq_false (by omega);clear hn1 hm1
    go_wp2_with fail
    go_roundw
    case rel=>exact⟨k+1,by omega,by go_num,by rw [HS.out];go_num,(by first | trivial | rfl)⟩
    case measure=>simp [intOf];omega
  · obtain rfl:k=3:=by omega
    rw [HEND.out]
    go_wp2_with fail
    refine(HGR.out wr).mono ?_;rintro e w2 ⟨v,rfl,hown,hb2⟩;have HOW:=Hd hown;have HB2:=Hd hb2;clear hown hb2
    go_wp2_with fail
    generalize wr=w at *
    go_loopw [6,27] (fun v i wr=>∃ k:Nat,k≤3∧i=.int .i64 k∧wr.ownsRow w.heap.size 45 6 v (cat k).length (flD (cat k))∧Below w.heap.size w wr) (fun _ i _=>3-(intOf i).toNat)
    case atStart=>exact⟨0,by omega,rfl,by rw [HNIL.out];exact HOW.out,HB2.out⟩
    case round=>
     obtain⟨k,hk,rfl,hown,hnx⟩:=hrel;have HO:=Hd hown;have HNX:=Hd hnx;clear hown
     by_cases hlt:k<3
     · obtain⟨A,c,hAk,hrd⟩:=HLS.out wr (HR.out.below hnx) k hlt;have e0:=(hnx.cell (p:=⟨b,k,none⟩) HB.out).trans (HC.out k);rw [hAk] at e0;have HRD:=Hd hrd;have hlk:=HLK.out k hlt;have HS:=Hd (HSU.out k hlt);clear hAk hrd hnx
       go_wp2_with (at_builtin;refine wpList_append_dc rfl _ _ 38 rfl w.heap.size 45 i0 z0 72 Try.underlying38 hi hz1 hz0 hz2 hz3 _ (cat k).length (cat k) rfl HO.out A (listK x k).length c (listK x k) rfl HRD.out (by unfold maxLen;omega) (by omega) HNX.out.size ?_;intro v' w5 hown' hgrow;have hB5:=HNX.out.grown hgrow HNX.out.size (fun j hj=>(HO.out.lt j hj).1);have HO5:=Hd hown';have HB5:=Hd hB5;clear hown' hgrow hB5)
       go_roundw
       case rel=>exact⟨k+1,by omega,by go_num,by rw [HS.out,List.length_append];exact HO5.out,HB5.out⟩
       case measure=>simp [intOf];omega
     · obtain rfl:k=3:=by omega
       rw [HEND.out] at HO;have hO:=HO.out;obtain⟨A,c,rfl,hrd⟩:=RdD.of_own hO (by have:=HLE.out 3 (by omega);rw [HEND.out] at this;omega);have HRD:=Hd hrd;clear hO hrd
       go_wp2_with fail
       go_ret
       exact⟨A,c,rfl,HRD.out,HNX.out⟩
end
section
def firstF{α:Type} [DecidableEq α] (z:α) (f:Nat→α):Nat→α
 | 0=>z
 | n+1=>if firstF z f n=z then f n else firstF z f n
theorem firstF_no{α:Type} [DecidableEq α] {z:α}{f:Nat→α}:∀ {n:Nat},(∀ j,j<n→f j=z)→firstF z f n=z
 | 0,_=>rfl
 | n+1,h=>by rw [firstF,if_pos (firstF_no fun j hj=>h j (by omega)),h n (by omega)]
theorem firstF_hit{α:Type} [DecidableEq α] {z:α}{f:Nat→α}{k:Nat}:∀ {n:Nat},k<n→(∀ j,j<k→f j=z)→f k≠z→firstF z f n=f k
 | 0,h,_,_=>absurd h (by omega)
 | n+1,hk,hn,hf=>by
  rw [firstF]
  by_cases h:k<n
  · have h1:=firstF_hit h hn hf;rw [h1,if_neg hf]
  · obtain rfl:k=n:=by omega
    rw [if_pos (firstF_no hn)]
def armR(es:List En) (s:ByteArray):Option (Int × Int × Int):=
 if(s.toList==[116,114,117,101])=true then some (2,0,1)
 else if(s.toList==[102,97,108,115,101])=true then some (2,0,0)
 else(findE es s).map fun p=>(3,(p.1:Int),(p.2.1:Int))
def nmB(s:ByteArray) (t:ByteArray):Bool:=t.data.toList==s.data.toList
def isV(n:Nd) (s:ByteArray):Bool:=(declO n s).isSome
def armV(es:List En) (s:ByteArray):Bool:=(armR es s).isSome
def ndAt(p:Pg) (i:Nat):Nd:=p.ns[i]?.getD default
def partS(p:Pg) (i:Nat) (e:Ex):Bool:=
 if((e.k==3 || e.k==11 || e.k==12) && !isV (ndAt p i) e.s)=true then false
 else if e.arms.all (armV p.es)=false then false
 else if(e.k==4)=true then armV p.es e.s
 else if(e.k==13)=true then decide (0≤findN p e.s) && decide (findN p e.s<(i:Int))
 else !(e.k==17)
def cntS(s:ByteArray) (l:List ByteArray):Nat:=(l.filter (nmB s)).length
def defN(n:Nd) (s:ByteArray) (i:Nat):Nat:=cntS s ((n.eqs.take i).flatMap Qn.ns)
def inputS(n:Nd) (s:ByteArray):Bool:=n.ins.any fun d=>nmB s d.nm
def nameS(n:Nd) (i:Nat) (ns:List ByteArray) (k:Nat):Int:=
 if isV n (ns[k]?.getD ByteArray.empty)=false then 5
 else if(inputS n (ns[k]?.getD ByteArray.empty) || decide (0<defN n (ns[k]?.getD ByteArray.empty) i))=true then 6
 else if(ns.take k).any (nmB (ns[k]?.getD ByteArray.empty))=true then 6 else 0
def eqS(p:Pg) (i j:Nat):Int:=
 if firstF (0:Int) (nameS (ndAt p i) j ((ndAt p i).eqs[j]?.getD default).ns) ((ndAt p i).eqs[j]?.getD default).ns.length=0
 then(if(partsX ((ndAt p i).eqs[j]?.getD default).x).all (partS p i)=true then 0 else 5)
 else firstF (0:Int) (nameS (ndAt p i) j ((ndAt p i).eqs[j]?.getD default).ns) ((ndAt p i).eqs[j]?.getD default).ns.length
def onS(p:Pg) (n:Nd) (d:Dc):Bool:=(d.on.toList==[]) || (isV n d.on && armV p.es d.ct)
abbrev Fl:=Int × Int × Int
def eqF(p:Pg) (i j:Nat):Fl:=if eqS p i j=0 then(0,0,0) else((i:Int),(j:Int),eqS p i j)
def nodeS(p:Pg) (i:Nat):Fl:=
 if(ndAt p i).all.all (onS p (ndAt p i))=false then((i:Int),-1,5)
 else if firstF ((0,0,0):Fl) (eqF p i) (ndAt p i).eqs.length=(0,0,0)
 then(if((ndAt p i).all.drop (ndAt p i).ins.length).all (fun d=>decide (0<defN (ndAt p i) d.nm (ndAt p i).eqs.length))=true then(0,0,0) else((i:Int),-1,5))
 else firstF ((0,0,0):Fl) (eqF p i) (ndAt p i).eqs.length
def checkS(p:Pg):Fl:=if checkN p=0 then firstF ((0,0,0):Fl) (nodeS p) p.ns.length else(0,-1,checkN p)
end
end Go.Proofs.Ytpehkppcdlboeaa
