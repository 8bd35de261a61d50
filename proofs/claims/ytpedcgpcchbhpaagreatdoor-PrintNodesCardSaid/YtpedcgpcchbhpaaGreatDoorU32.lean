/- Parts of the proof: PkE, PkF. Conditions: each theorem's own. -/
import Derived.Test.YtpedcgpcchbhpaaGreatDoorU23
import Derived.Test.YtpedcgpcchbhpaaGreatDoorU31
namespace Go.Proofs.YtpedcgpcchbhpaaGreatDoor
set_option linter.unusedVariables false
set_option linter.unusedSimpArgs false
set_option maxRecDepth 100000
set_option maxHeartbeats 40000000
section
open Go.RowKit Go.Sort Go.BigFrame
theorem num_of{x:Ex}(hok:OkX x) (hsh:∀ p∈partsX x,ShortP p):∀ p∈partsX x,NumP p:=fun p hp=>by
 have h:=(hok p hp).2.2.2.1
 simp [Lit.wf,IntKind.min,IntKind.max,IntKind.signed,IntKind.bits] at h
 exact⟨(hsh p hp).1,by omega,by omega⟩
def txX(x:Ex):List UInt8:=(textS x).data.toList
theorem txX_right{x:Ex}(h:rightX x=true):txX x=textL x:=by
 unfold txX textS;rw [if_pos h,ofB_data]
theorem txX_len{x:Ex}(hn:∀ p∈partsX x,NumP p):(textS x).size≤78000:=by
 unfold textS
 cases h:rightX x with
 | false=>rw [if_neg (by simp)];decide
 | true=>
  rw [if_pos rfl,ofB_sizeS];have h1:=text_len x (right_ok h) hn;have h2:=right_size h;omega
def eqG(q:Qn):List UInt8:=32::32::(joinW 44 (q.ns.map strL)++32::61::32::(txX q.x++[59]))
def eqsG(l:List Qn):List UInt8:=l.flatMap fun q=>eqG q++[10]
def nodeG(ty:Dc→List UInt8) (n:Nd):List UInt8:=nodeW++(n.nm.data.toList++40::(declsT ty n.ins++41::(retW++40::(declsT ty n.outs++41::10::(varsT ty n.vars++(letW++(eqsG n.eqs++telW)))))))
theorem eqs_GT:∀ {l:List Qn},(∀ q∈l,rightX q.x=true)→eqsG l=eqsT l
 | [],_=>rfl
 | q::l,h=>by
  have h1:eqG q=eqT q:=by
   unfold eqG eqT;rw [txX_right (h q (by simp))];rfl
  simp only [eqsG,eqsT,List.flatMap_cons,h1];have:=eqs_GT (l:=l) fun x hx=>h x (by simp [hx]);simp only [eqsG,eqsT] at this;rw [this]
theorem nodeG_T{ty:Dc→List UInt8}{n:Nd}(h:∀ q∈n.eqs,rightX q.x=true):nodeG ty n=nodeT ty n:=by
 unfold nodeG nodeT;rw [eqs_GT h]
def ShortQ(q:Qn):Prop:=q.ns.length≤1000∧(∀ s∈q.ns,s.size≤1000)∧sizeX q.x≤1000000∧∀ p∈partsX q.x,ShortP p
def ShortN(n:Nd):Prop:=n.nm.size≤1000∧n.ins.length≤1000∧n.outs.length≤1000∧n.vars.length≤1000∧n.eqs.length≤1000∧(∀ d∈n.all,ShortD d)∧∀ q∈n.eqs,ShortQ q
theorem eqG_len{q:Qn}(h:ShortQ q) (ht:(textS q.x).size≤78000):(eqG q++[10]).length≤1100000:=by
 have h1:=joinW_len (s:=44) (m:=1000) (l:=q.ns.map strL) (fun a ha=>by
  obtain⟨s,hs,rfl⟩:=List.mem_map.1 ha;exact h.2.1 s hs)
 rw [List.length_map] at h1;have h2:(txX q.x).length≤78000:=ht;have h3:=h.1;simp only [eqG,List.length_append,List.length_cons,List.length_nil];omega
theorem eqs_snoc{l:List Qn}{k:Nat}(h:k<l.length):eqsG (l.take (k+1))=eqsG (l.take k)++(eqG (l[k]?.getD default)++[10]):=by
 unfold eqsG;rw [List.take_add_one,List.getElem?_eq_getElem h,List.flatMap_append]
 simp
theorem eqs_len{l:List Qn}(h:∀ q∈l,(eqG q++[10]).length≤1100000):∀ k,(eqsG (l.take k)).length≤1100000*k:=by
 intro k
 induction k with
 | zero=>simp [eqsG]
 | succ k ih=>
  rcases Nat.lt_or_ge k l.length with hk | hk
  · rw [eqs_snoc hk,List.length_append];have:=h (l[k]?.getD default) (by rw [List.getElem?_eq_getElem hk];exact List.getElem_mem _);omega
  · rw [List.take_of_length_le (by omega)];rw [List.take_of_length_le (by omega)] at ih;omega
def headG(ty:Dc→List UInt8) (n:Nd):List UInt8:=nodeW++(n.nm.data.toList++40::(declsT ty n.ins++41::(retW++40::(declsT ty n.outs++41::10::(varsT ty n.vars++letW)))))
theorem nodeG_head(ty:Dc→List UInt8) (n:Nd):nodeG ty n=headG ty n++eqsG n.eqs++telW:=by simp [nodeG,headG]
theorem headG_len{es:List En}(h:EsShort es){n:Nd}(hn:ShortN n):(headG (tyL es) n).length≤20000000:=by
 obtain⟨h1,h2,h3,h4,_,h6,_⟩:=hn;have a1:=declsT_len h (l:=n.ins) fun d hd=>h6 d (by simp [Nd.all,hd]);have a2:=declsT_len h (l:=n.outs) fun d hd=>h6 d (by simp [Nd.all,hd]);have a3:=declsT_len h (l:=n.vars) fun d hd=>h6 d (by simp [Nd.all,hd])
 have a4:(varsT (tyL es) n.vars).length≤4002*n.vars.length+10:=by
  unfold varsT
  split
  · simp
  · simp [varW];omega
 have a5:n.nm.data.toList.length≤1000:=h1;simp only [headG,List.length_append,List.length_cons];have e1:nodeW.length=5:=rfl;have e2:retW.length=9:=rfl;have e3:letW.length=4:=rfl;omega
theorem refNodeT(es:List En) (E:Option Addr) (ec:Nat) (x:Nd) (A1:Option Addr) (c1:Nat) (A2:Option Addr) (c2:Nat) (A3:Option Addr) (c3:Nat) (A4:Option Addr) (c4:Nat) (w:World)
 (hE:RdE w E es.length es) (hsm:EsShort es) (h:rdNC w x A1 A2 A3 A4) (hs:ShortN x):
 Calls Tryz.prog 14 #[.slice E es.length ec,.agg (ndA x A1 c1 A2 c2 A3 c3 A4 c4)] w fun e w'=>e=.returned (.string (ofB (nodeG (tyL es) x)))∧Below w.heap.size w w':=by
 have HF:=Hd fun w1 hw=>nd_facts w x A1 c1 A2 c2 A3 c3 A4 c4 w1 hw h.1;have hi1:=hs.2.1;have hi2:=hs.2.2.1;have hi3:=hs.2.2.2.1;have hi4:=hs.2.2.2.2.1;have hok:∀ d∈x.all,ShortD d:=hs.2.2.2.2.2.1;have hq:∀ q∈x.eqs,ShortQ q:=hs.2.2.2.2.2.2;have a1:=declsT_len hsm (l:=x.ins) fun d hd=>hok d (by simp [Nd.all,hd]);have a2:=declsT_len hsm (l:=x.outs) fun d hd=>hok d (by simp [Nd.all,hd]);have a3:=declsT_len hsm (l:=x.vars) fun d hd=>hok d (by simp [Nd.all,hd]);have HD1:=Hd fun w1 (a:RdE w1 E es.length es) (b:RdD w1 A1 x.ins.length x.ins)=>refDeclsT es E ec A1 x.ins.length c1 x.ins w1 a hsm b hi1 (fun d hd=>hok d (by simp [Nd.all,hd]));have HD2:=Hd fun w1 (a:RdE w1 E es.length es) (b:RdD w1 A2 x.outs.length x.outs)=>refDeclsT es E ec A2 x.outs.length c2 x.outs w1 a hsm b hi2 (fun d hd=>hok d (by simp [Nd.all,hd]));have HD3:=Hd fun w1 (a:RdE w1 E es.length es) (b:RdD w1 A3 x.vars.length x.vars)=>refDeclsT es E ec A3 x.vars.length c3 x.vars w1 a hsm b hi3 (fun d hd=>hok d (by simp [Nd.all,hd]));have HST:=Hd fun A c (q:Qn) (hq:ShortQ q) w1 (a:RdT w1 A q.ns.length q.ns)=>(refStrs A q.ns.length c q.ns w1 a hq.1 hq.2.1).mono (R':=fun e w'=>e=.returned (.string (ofB (joinW 44 (q.ns.map strL))))∧Below w1.heap.size w1 w') (fun e w' hh=>⟨hh.1,by rw [hh.2];exact Below.refl _ _⟩);have HEX:=Hd fun A ca B cb (q:Qn) (hq:ShortQ q) w1 (a:rdX w1 q.x A B) (ok:OkX q.x) (hc:q.x.subs.length≤cb) (hx:capX w1 q.x B)=>refExpr q.x A ca B cb w1 a (fun _=>hc) hx hq.2.2.1 hq.2.2.2 (num_of ok hq.2.2.2);have hhd:=headG_len hsm hs;have HHD:=Hd (nodeG_head (tyL es) x)
 have HQN:=Hd fun(k:Nat) (hk:k<x.eqs.length)=>(show ShortQ (x.eqs[k]?.getD default) by
  rw [List.getElem?_eq_getElem hk,Option.getD_some];exact hq _ (List.getElem_mem _))
 have HQS:=Hd fun(k:Nat) (hk:k<x.eqs.length)=>eqs_snoc hk;have HHEAD:=Hd (show headG (tyL es) x=nodeW++(x.nm.data.toList++40::(declsT (tyL es) x.ins++41::(retW++40::(declsT (tyL es) x.outs++41::10::(varsT (tyL es) x.vars++letW))))) from rfl);have HVT:=Hd (show varsT (tyL es) x.vars=if x.vars=[] then [] else varW++(declsT (tyL es) x.vars++[59,10]) from rfl);have hns:=hs.1;have HRE:=Hd hE;have HRC:=Hd h
 have HOKQ:=Hd (show ∀ k,k<x.eqs.length→OkX (x.eqs[k]?.getD default).x from fun k hk=>by
  obtain⟨b,off,B,c,A',ca,B',cb,-,-,⟨-,-,ok,-⟩,-⟩:=qn_atC h.2 hk;exact ok)
 have HQL:=Hd fun k=>eqs_len (l:=x.eqs) (fun q hqq=>by
  obtain⟨i,hi,rfl⟩:=List.getElem_of_mem hqq;have ok:=HOKQ.out i hi;rw [List.getElem?_eq_getElem hi] at ok;exact eqG_len (hq _ hqq) (txX_len (num_of ok (hq _ hqq).2.2.2))) k
 clear hE hsm h hs hok hq;unfold ndA at HF ⊢;generalize nodeG (tyL es) x=ng at *;generalize headG (tyL es) x=hd at *;generalize varsT (tyL es) x.vars=vt at *;have s1:(ofB (declsT (tyL es) x.ins)).size≤4002000:=by rw [ofB_sizeS];omega
 have s2:(ofB (declsT (tyL es) x.outs)).size≤4002000:=by rw [ofB_sizeS];omega
 have s3:(ofB (declsT (tyL es) x.vars)).size≤4002000:=by rw [ofB_sizeS];omega
 clear a1 a2 a3;generalize declsT (tyL es) x.ins=t1 at *;generalize declsT (tyL es) x.outs=t2 at *;generalize declsT (tyL es) x.vars=t3 at *
 have HH0:=Hd fun(hv:x.vars=[])=>(show(⟨#[110,111,100,101,32]⟩:ByteArray)++x.nm++(⟨#[40]⟩:ByteArray)++ofB t1++(⟨#[41,32,114,101,116,117,114,110,115,32,40]⟩:ByteArray)++ofB t2++(⟨#[41,10]⟩:ByteArray)++(⟨#[108,101,116,10]⟩:ByteArray)=ofB hd by
  rw [HHEAD.out,HVT.out,if_pos hv];exact ba_ext (by simp [ofB,nodeW,retW,letW]))
 have HH1:=Hd fun(hv:¬ x.vars=[])=>(show(⟨#[110,111,100,101,32]⟩:ByteArray)++x.nm++(⟨#[40]⟩:ByteArray)++ofB t1++(⟨#[41,32,114,101,116,117,114,110,115,32,40]⟩:ByteArray)++ofB t2++(⟨#[41,10]⟩:ByteArray)++(⟨#[118,97,114,32]⟩:ByteArray)++ofB t3++(⟨#[59,10]⟩:ByteArray)++(⟨#[108,101,116,10]⟩:ByteArray)=ofB hd by
  rw [HHEAD.out,HVT.out,if_neg hv];exact ba_ext (by simp [ofB,nodeW,retW,letW,varW]))
 clear HHEAD HVT;generalize ofB t1=d1 at *;generalize ofB t2=d2 at *;generalize ofB t3=d3 at *;generalize hvs:x.vars=vs at *;generalize x.nm=nm at *;generalize hnv:vs.length=nv at *;have HV0:=Hd (show(0<nv→¬ vs=[])∧(¬ 0<nv→vs=[]) from⟨fun h e=>by rw [e] at hnv;simp at hnv;omega,fun h=>List.eq_nil_of_length_eq_zero (by omega)⟩);have HVS:=Hd hvs;have HNV:=Hd hnv;clear hvs hnv;generalize hqs:x.eqs=qs at *;generalize hnq:qs.length=n at *;have HNQ:=Hd hnq;clear hnq;have z1:(9223372036854775807<5+nm.size)=False:=by rw [eq_iff_iff,iff_false];omega
 have z2:(9223372036854775807<5+nm.size+1)=False:=by rw [eq_iff_iff,iff_false];omega
 have z3:(9223372036854775807<5+nm.size+1+d1.size)=False:=by rw [eq_iff_iff,iff_false];omega
 have z4:(9223372036854775807<5+nm.size+1+d1.size+11)=False:=by rw [eq_iff_iff,iff_false];omega
 have z5:(9223372036854775807<5+nm.size+1+d1.size+11+d2.size)=False:=by rw [eq_iff_iff,iff_false];omega
 have z6:(9223372036854775807<5+nm.size+1+d1.size+11+d2.size+2)=False:=by rw [eq_iff_iff,iff_false];omega
 go_enter Tryz.func14,Tryz.ntmps14
 go_upto_region 1 with(fail)
 generalize hw1:w.alloc _=w1;obtain⟨hb1,hg,-,hcell⟩:=HF.out w1 hw1;have HB1:=Hd hb1;have HC:=Hd hcell;have HR1:=Hd (HRE.out.below hb1);have HRC1:=Hd (HRC.out.below hb1);obtain⟨p0,p1,p2,-,-,-⟩:=Sx (hcell w1 (Below.refl _ _));simp only [Ya,Yb,Yc] at p0 p1 p2;clear hw1 hcell hb1 HF HRE HRC;have HBR:=Hd fun d os=>below_regrown w1 d os;have l0:=fun d os=>cell_regrown p0 d os;have l1:=fun d os=>cell_regrown p1 d os;have l2:=fun d os=>cell_regrown p2 d os;have cA:=fun d os=>Calls.regrown_of (HD1.out (grow (redrawn w1 d) os) (HR1.out.below (below_regrown w1 d os)) (HRC1.out.below (below_regrown w1 d os)).1.1);have cB:=fun d os=>Calls.regrown_of (HD2.out (grow (redrawn w1 d) os) (HR1.out.below (below_regrown w1 d os)) (HRC1.out.below (below_regrown w1 d os)).1.2.1);refine wp_region_quiet_below (by kernel_rfl) (by kernel_rfl) ?_
 repeat (go_big_quiet_step (first | with_reducible exact cA _ _ | with_reducible exact cB _ _))
 refine wpQuiet_nil ?_;intro _ hw';obtain⟨⟨dq,osq⟩,hw''⟩:=hw';have hbr:=HBR.out dq osq;rw [← hw''] at hbr;clear cA cB l0 l1 l2 p0 p1 p2 hw''
 rename_i w2
 have HW2:=Hd hbr;have p3:=HC.out w2 hbr 3;simp only [Ya,Yb,Yc] at p3;clear hbr
 by_cases hv:0<nv
 · have dv:decide ((0:Int)<(nv:Int))=true:=decide_eq_true (by omega);have HH:=Hd (HH1.out (HV0.out.1 hv));have hD3:=HD3.out w2 (HR1.out.below HW2.out) (by rw [← HNV.out,← HVS.out];exact(HRC1.out.below HW2.out).1.2.2.1);clear HH0 HH1;have y1:(9223372036854775807<5+nm.size+1+d1.size+11+d2.size+2+4)=False:=by rw [eq_iff_iff,iff_false];omega
   have y2:(9223372036854775807<5+nm.size+1+d1.size+11+d2.size+2+4+d3.size)=False:=by rw [eq_iff_iff,iff_false];omega
   have y3:(9223372036854775807<5+nm.size+1+d1.size+11+d2.size+2+4+d3.size+2)=False:=by rw [eq_iff_iff,iff_false];omega
   have y4:(9223372036854775807<5+nm.size+1+d1.size+11+d2.size+2+4+d3.size+2+4)=False:=by rw [eq_iff_iff,iff_false];omega
   have HD3:=Hd hD3;clear hD3
   go_wp2_with fail
   refine HD3.out.mono ?_;rintro e w3 ⟨rfl,hb3⟩;have HW3:=Hd (HW2.out.trans (hb3.mono HW2.out.size));clear hb3 p3
   go_upto_region 5 with(fail)
   rw [HH.out];have hhs:(ofB hd).size≤20000000:=by rw [ofB_sizeS];exact hhd
   clear z1 z2 z3 z4 z5 z6 y1 y2 y3 y4 dv HH
   go_wp2_with fail
   go_loopw [5,6] (fun s i wr=>∃ k:Nat,k≤n∧i=.int .i64 k∧s=.string (ofB (hd++eqsG (qs.take k)))∧Below w1.heap.size w1 wr) (fun _ i _=>n-(intOf i).toNat)
   case atStart=>exact⟨0,Nat.zero_le _,rfl,by simp [eqsG],HW3.out⟩
   case round=>
    obtain⟨k,hk,rfl,rfl,hnx⟩:=hrel;have HNX:=Hd hnx;have q4:=HC.out wr hnx 4;simp only [Ya,Yb,Yc] at q4
    have hsl:(ofB (hd++eqsG (qs.take k))).size≤20000000+1100000*k:=by
     have:=HQL.out k;rw [ofB_sizeS,List.length_append];omega
    by_cases hlt:k<n
    · obtain⟨b,off,B,cB0,D,cD,F,cF,rfl,hbl,⟨r1,r2,r3,r4,r5,-⟩,e0,e1,e2,e3,e4,e5,e6⟩:=qn_atC (HRC1.out.below hnx).2 (by rw [hqs,HNQ.out];exact hlt);rw [hqs] at r1 r2 r3 r4 r5 e0 e1 e2 e3 e4 e5 e6;have hyq:=HQN.out k hlt;have HQK:=Hd (HQS.out k hlt)
      have hns2:(ofB (joinW 44 ((qs[k]?.getD default).ns.map strL))).size≤1002000:=by
       have h1:=joinW_len (s:=44) (m:=1000) (l:=(qs[k]?.getD default).ns.map strL) (fun a ha=>by
        obtain⟨s,hs,rfl⟩:=List.mem_map.1 ha;exact hyq.2.1 s hs)
       rw [List.length_map] at h1;have h2:=hyq.1;rw [ofB_sizeS];omega
      have htx:=txX_len (num_of r3 hyq.2.2.2);have HSC:=Hd fun w1 a=>HST.out B cB0 (qs[k]?.getD default) hyq w1 a;have HXC:=Hd fun w1 a c=>HEX.out D cD F cF (qs[k]?.getD default) hyq w1 a r3 r4 c;have HR1c:=Hd r1;have HR2c:=Hd r2;have HR5c:=Hd r5;clear hnx hyq r1 r2 r3 r4 r5;generalize qs[k]?.getD default=y at *;unfold exA at HXC
      have HEQ:=Hd (show ofB (hd++eqsG (qs.take k))++(⟨#[32,32]⟩:ByteArray)++ofB (joinW 44 (y.ns.map strL))++(⟨#[32,61,32]⟩:ByteArray)++textS y.x++(⟨#[59,10]⟩:ByteArray)=ofB (hd++eqsG (qs.take (k+1))) by
       rw [HQK.out];exact ba_ext (by simp [ofB,eqG,txX]))
      generalize ofB (hd++eqsG (qs.take k))=sv at *;generalize ofB (joinW 44 (y.ns.map strL))=nt at *;generalize textS y.x=tx at *;have x1:(9223372036854775807<sv.size+2)=False:=by rw [eq_iff_iff,iff_false];omega
      have x2:(9223372036854775807<sv.size+2+nt.size)=False:=by rw [eq_iff_iff,iff_false];omega
      have x3:(9223372036854775807<sv.size+2+nt.size+3)=False:=by rw [eq_iff_iff,iff_false];omega
      have x4:(9223372036854775807<sv.size+2+nt.size+3+tx.size)=False:=by rw [eq_iff_iff,iff_false];omega
      have x5:(9223372036854775807<sv.size+2+nt.size+3+tx.size+2)=False:=by rw [eq_iff_iff,iff_false];omega
      have HBR2:=Hd fun d os=>below_regrown wr d os
      go_upto_region 8 with(fail)
      have m4:=fun d os=>cell_regrown q4 d os;have m0:=fun d os=>cell_regrown e0 d os;have m1:=fun d os=>cell_regrown e1 d os;have m2:=fun d os=>cell_regrown e2 d os;have m3:=fun d os=>cell_regrown e3 d os;have m5:=fun d os=>cell_regrown e4 d os;have m6:=fun d os=>cell_regrown e5 d os;have m7:=fun d os=>cell_regrown e6 d os;have cS:=fun d os=>Calls.regrown_of (HSC.out (grow (redrawn wr d) os) (HR1c.out.below (below_regrown wr d os)));have cX:=fun d os=>Calls.regrown_of (HXC.out (grow (redrawn wr d) os) (HR2c.out.below (below_regrown wr d os)) (HR5c.out.below HR2c.out (below_regrown wr d os)));refine wp_region_quiet_below (by kernel_rfl) (by kernel_rfl) ?_
      repeat (go_big_quiet_step (first | with_reducible exact cS _ _ | with_reducible exact cX _ _))
      refine wpQuiet_nil ?_;intro _ hw3;obtain⟨⟨dq3,osq3⟩,hw33⟩:=hw3;have hbr3:=HBR2.out dq3 osq3;rw [← hw33] at hbr3;clear cS cX m0 m1 m2 m3 m4 m5 m6 m7 hw33 e0 e1 e2 e3 e4 e5 e6 q4
      rename_i w9
      have HB9:=Hd (HNX.out.trans (hbr3.mono HNX.out.size));clear hbr3
      go_wp2_with fail
      go_roundw
      case rel=>exact⟨k+1,by omega,by go_num,by rw [← HEQ.out],HB9.out⟩
      case measure=>simp [intOf];omega
    · have hkn:k=n:=by omega
      have HO:=Hd (show ofB (hd++eqsG (qs.take k))++(⟨#[116,101,108,10]⟩:ByteArray)=ofB ng by
       rw [HHD.out,List.take_of_length_le (by rw [HNQ.out];omega)];exact ba_ext (by simp [ofB,telW]))
      generalize ofB (hd++eqsG (qs.take k))=sv at *;have x1:(9223372036854775807<sv.size+4)=False:=by rw [eq_iff_iff,iff_false];omega
      clear hnx
      go_wp2_with fail
      go_ret
      exact⟨ret_strV HO.out,HB1.out.trans (HNX.out.mono HB1.out.size)⟩
 · have dv:decide ((0:Int)<(nv:Int))=false:=decide_eq_false (by omega);have HH:=Hd (HH0.out (HV0.out.2 hv));clear HH0 HH1;have y4:(9223372036854775807<5+nm.size+1+d1.size+11+d2.size+2+4)=False:=by rw [eq_iff_iff,iff_false];omega
   go_upto_region 5 with(fail)
   rw [HH.out];have hhs:(ofB hd).size≤20000000:=by rw [ofB_sizeS];exact hhd
   clear z1 z2 z3 z4 z5 z6 y4 dv HH p3
   go_wp2_with fail
   go_loopw [5,6] (fun s i wr=>∃ k:Nat,k≤n∧i=.int .i64 k∧s=.string (ofB (hd++eqsG (qs.take k)))∧Below w1.heap.size w1 wr) (fun _ i _=>n-(intOf i).toNat)
   case atStart=>exact⟨0,Nat.zero_le _,rfl,by simp [eqsG],HW2.out⟩
   case round=>
    obtain⟨k,hk,rfl,rfl,hnx⟩:=hrel;have HNX:=Hd hnx;have q4:=HC.out wr hnx 4;simp only [Ya,Yb,Yc] at q4
    have hsl:(ofB (hd++eqsG (qs.take k))).size≤20000000+1100000*k:=by
     have:=HQL.out k;rw [ofB_sizeS,List.length_append];omega
    by_cases hlt:k<n
    · obtain⟨b,off,B,cB0,D,cD,F,cF,rfl,hbl,⟨r1,r2,r3,r4,r5,-⟩,e0,e1,e2,e3,e4,e5,e6⟩:=qn_atC (HRC1.out.below hnx).2 (by rw [hqs,HNQ.out];exact hlt);rw [hqs] at r1 r2 r3 r4 r5 e0 e1 e2 e3 e4 e5 e6;have hyq:=HQN.out k hlt;have HQK:=Hd (HQS.out k hlt)
      have hns2:(ofB (joinW 44 ((qs[k]?.getD default).ns.map strL))).size≤1002000:=by
       have h1:=joinW_len (s:=44) (m:=1000) (l:=(qs[k]?.getD default).ns.map strL) (fun a ha=>by
        obtain⟨s,hs,rfl⟩:=List.mem_map.1 ha;exact hyq.2.1 s hs)
       rw [List.length_map] at h1;have h2:=hyq.1;rw [ofB_sizeS];omega
      have htx:=txX_len (num_of r3 hyq.2.2.2);have HSC:=Hd fun w1 a=>HST.out B cB0 (qs[k]?.getD default) hyq w1 a;have HXC:=Hd fun w1 a c=>HEX.out D cD F cF (qs[k]?.getD default) hyq w1 a r3 r4 c;have HR1c:=Hd r1;have HR2c:=Hd r2;have HR5c:=Hd r5;clear hnx hyq r1 r2 r3 r4 r5;generalize qs[k]?.getD default=y at *;unfold exA at HXC
      have HEQ:=Hd (show ofB (hd++eqsG (qs.take k))++(⟨#[32,32]⟩:ByteArray)++ofB (joinW 44 (y.ns.map strL))++(⟨#[32,61,32]⟩:ByteArray)++textS y.x++(⟨#[59,10]⟩:ByteArray)=ofB (hd++eqsG (qs.take (k+1))) by
       rw [HQK.out];exact ba_ext (by simp [ofB,eqG,txX]))
      generalize ofB (hd++eqsG (qs.take k))=sv at *;generalize ofB (joinW 44 (y.ns.map strL))=nt at *;generalize textS y.x=tx at *;have x1:(9223372036854775807<sv.size+2)=False:=by rw [eq_iff_iff,iff_false];omega
      have x2:(9223372036854775807<sv.size+2+nt.size)=False:=by rw [eq_iff_iff,iff_false];omega
      have x3:(9223372036854775807<sv.size+2+nt.size+3)=False:=by rw [eq_iff_iff,iff_false];omega
      have x4:(9223372036854775807<sv.size+2+nt.size+3+tx.size)=False:=by rw [eq_iff_iff,iff_false];omega
      have x5:(9223372036854775807<sv.size+2+nt.size+3+tx.size+2)=False:=by rw [eq_iff_iff,iff_false];omega
      have HBR2:=Hd fun d os=>below_regrown wr d os
      go_upto_region 8 with(fail)
      have m4:=fun d os=>cell_regrown q4 d os;have m0:=fun d os=>cell_regrown e0 d os;have m1:=fun d os=>cell_regrown e1 d os;have m2:=fun d os=>cell_regrown e2 d os;have m3:=fun d os=>cell_regrown e3 d os;have m5:=fun d os=>cell_regrown e4 d os;have m6:=fun d os=>cell_regrown e5 d os;have m7:=fun d os=>cell_regrown e6 d os;have cS:=fun d os=>Calls.regrown_of (HSC.out (grow (redrawn wr d) os) (HR1c.out.below (below_regrown wr d os)));have cX:=fun d os=>Calls.regrown_of (HXC.out (grow (redrawn wr d) os) (HR2c.out.below (below_regrown wr d os)) (HR5c.out.below HR2c.out (below_regrown wr d os)));refine wp_region_quiet_below (by kernel_rfl) (by kernel_rfl) ?_
      repeat (go_big_quiet_step (first | with_reducible exact cS _ _ | with_reducible exact cX _ _))
      refine wpQuiet_nil ?_;intro _ hw3;obtain⟨⟨dq3,osq3⟩,hw33⟩:=hw3;have hbr3:=HBR2.out dq3 osq3;rw [← hw33] at hbr3;clear cS cX m0 m1 m2 m3 m4 m5 m6 m7 hw33 e0 e1 e2 e3 e4 e5 e6 q4
      rename_i w9
      have HB9:=Hd (HNX.out.trans (hbr3.mono HNX.out.size));clear hbr3
      go_wp2_with fail
      go_roundw
      case rel=>exact⟨k+1,by omega,by go_num,by rw [← HEQ.out],HB9.out⟩
      case measure=>simp [intOf];omega
    · have hkn:k=n:=by omega
      have HO:=Hd (show ofB (hd++eqsG (qs.take k))++(⟨#[116,101,108,10]⟩:ByteArray)=ofB ng by
       rw [HHD.out,List.take_of_length_le (by rw [HNQ.out];omega)];exact ba_ext (by simp [ofB,telW]))
      generalize ofB (hd++eqsG (qs.take k))=sv at *;have x1:(9223372036854775807<sv.size+4)=False:=by rw [eq_iff_iff,iff_false];omega
      clear hnx
      go_wp2_with fail
      go_ret
      exact⟨ret_strV HO.out,HB1.out.trans (HNX.out.mono HB1.out.size)⟩
end
section
open Go.RowKit Go.Sort Go.BigFrame
theorem EsTiny.short{es:List En}(h:EsTiny es):EsShort es:=fun j hj=>(h.2 j hj).2.1
theorem fewD_short{l:List Dc}(h:fewD l=true):∀ d∈l,ShortD d:=by
 simp only [fewD,Bool.and_eq_true,List.all_eq_true,decide_eq_true_eq] at h;intro d hd;have h1:=h.1 d hd;simp only [dcFew,Bool.and_eq_true,Bool.not_eq_true',decide_eq_false_iff_not] at h1;unfold ShortD;omega
theorem TinyQ.short{q:Qn}(h:TinyQ q):ShortQ q:=by
 refine⟨by have:=h.1;omega,fun s hs=>?_,tiny_sizeX h.2.1,tiny_shortX h.2.1⟩;obtain⟨j,hj,rfl⟩:=List.getElem_of_mem hs;have:=h.2.2 j hj;rw [List.getElem?_eq_getElem hj,Option.getD_some] at this;omega
theorem TinyN.short{n:Nd}(h:TinyN n):ShortN n:=by
 have h1:=(fewD_ok h.1).2;have h2:=(fewD_ok h.2.1).2;have h3:=(fewD_ok h.2.2.1).2;have h4:=h.2.2.2.1;have h5:=h.2.2.2.2.1;refine⟨by omega,by omega,by omega,by omega,by omega,fun d hd=>?_,fun q hq=>?_⟩
 · simp only [Nd.all,List.mem_append] at hd;rcases hd with(hd | hd) | hd
   · exact fewD_short h.1 d hd
   · exact fewD_short h.2.1 d hd
   · exact fewD_short h.2.2.1 d hd
 · obtain⟨j,hj,rfl⟩:=List.getElem_of_mem hq;have:=h.2.2.2.2.2 j hj;rw [List.getElem?_eq_getElem hj,Option.getD_some] at this;exact this.short
theorem tiny_at{p:Pg}(ht:TinyP p){k:Nat}(hk:k<p.ns.length):TinyN (p.ns[k]?.getD default):=ht.2.2 k hk
theorem check_right{p:Pg}(h:checkN p=0):∀ x∈p.ns,∀ q∈x.eqs,rightX q.x=true:=by
 unfold checkN at h
 split at h
 · split at h
   · cases h
   · split at h
     · cases h
     · split at h
       · cases h
       · split at h
         · rename_i hr
           intro x hx q hq;have h1:=List.all_eq_true.1 hr x hx;simp only [nodeB,Bool.and_eq_true,List.all_eq_true] at h1;have h2:=h1.1.1.2 q hq;simp only [eqB,Bool.and_eq_true] at h2;exact h2.1.2
         · cases h
 · rename_i he
   exact absurd h he
theorem enums_snoc{l:List En}{k:Nat}(h:k<l.length):enumsT (l.take (k+1))=enumsT (l.take k)++enumT (l[k]?.getD default):=by
 unfold enumsT;rw [List.take_add_one,List.getElem?_eq_getElem h,List.flatMap_append]
 simp
theorem nodes_snoc{ty:Dc→List UInt8}{l:List Nd}{k:Nat}(h:k<l.length):nodesT ty (l.take (k+1))=nodesT ty (l.take k)++nodeT ty (l[k]?.getD default):=by
 unfold nodesT;rw [List.take_add_one,List.getElem?_eq_getElem h,List.flatMap_append]
 simp
theorem enumT_len{e:En}(h1:e.1.size≤100) (h2:e.2.length≤12) (h3:∀ s∈e.2,s.size≤1000):(enumT e).length≤20000:=by
 have h:=joinW_len (s:=44) (m:=1000) (l:=e.2.map fun s=>s.data.toList) (fun a ha=>by
  obtain⟨s,hs,rfl⟩:=List.mem_map.1 ha;exact h3 s hs)
 rw [List.length_map] at h;have h4:e.1.data.toList.length≤100:=h1;simp only [enumT,List.length_append,List.length_cons,List.length_nil];have:enumW.length=5:=rfl;omega
theorem cs_short{es:List En}(h:EsTiny es){k:Nat}(hk:k<es.length):(csE es k).length≤12∧(nmE es k).size≤100∧∀ s∈csE es k,s.size≤1000:=by
 have h1:=h.2 k hk;refine⟨h1.1,h1.2.1,fun s hs=>?_⟩;obtain⟨q,hq,rfl⟩:=List.getElem_of_mem hs;have:=h1.2.2 q hq;unfold ctAt at this;rw [List.getElem?_eq_getElem hq,Option.getD_some] at this;omega
theorem enums_len{es:List En}(h:EsTiny es):∀ k,(enumsT (es.take k)).length≤20000*k:=by
 intro k
 induction k with
 | zero=>simp [enumsT]
 | succ k ih=>
  rcases Nat.lt_or_ge k es.length with hk | hk
  · rw [enums_snoc hk,List.length_append,enD];obtain⟨a,b,c⟩:=cs_short h hk;have:=enumT_len (e:=(nmE es k,csE es k)) b a c;omega
  · rw [List.take_of_length_le (by omega)];rw [List.take_of_length_le (by omega)] at ih;omega
theorem nodes_len{ty:Dc→List UInt8}{l:List Nd}{m:Nat}(h:∀ n∈l,(nodeT ty n).length≤m):∀ k,(nodesT ty (l.take k)).length≤m*k:=by
 intro k
 induction k with
 | zero=>simp [nodesT]
 | succ k ih=>
  rcases Nat.lt_or_ge k l.length with hk | hk
  · rw [nodes_snoc hk,List.length_append];have:=h (l[k]?.getD default) (by rw [List.getElem?_eq_getElem hk];exact List.getElem_mem _);rw [Nat.mul_add,Nat.mul_one];omega
  · rw [List.take_of_length_le (by omega)];rw [List.take_of_length_le (by omega)] at ih;rw [Nat.mul_add];omega
theorem refTextP(p:Pg) (E:Option Addr) (ec:Nat) (N:Option Addr) (nc:Nat) (w:World) (h:rdPC w p E N) (ht:TinyP p):
 Calls Tryz.prog 9 #[.agg (pgA p E ec N nc)] w fun e w'=>e=.returned (.string (ofB (textP p)))∧Below w.heap.size w w':=by
 have HF:=Hd fun w1 hw=>pg_facts w p E ec N nc w1 hw h.plain;have HCK:=Hd fun w1 a=>refCheck p E ec N nc w1 a ht;have HRC:=Hd h;have hes:=ht.1.1;have hns:=ht.2.1;have hmx:=h.1.max;have hmn:=RdS.max h.2.1;have HT0:=Hd fun(hc:¬ checkN p=0)=>(show(⟨#[]⟩:ByteArray)=ofB (textP p) by unfold textP;rw [if_neg hc];rfl)
 by_cases hc:checkN p=0
 · have HTX:=Hd (show textP p=enumsT p.es++nodesT (tyL p.es) p.ns by unfold textP;rw [if_pos hc];rfl);have HST:=Hd fun A n c k (hk:k<p.es.length) w1 (a:RdT w1 A n (csE p.es k))=>(refStrs A n c (csE p.es k) w1 a (by have:=a.len;have:=(cs_short ht.1 hk).1;omega) (cs_short ht.1 hk).2.2).mono (R':=fun e w'=>e=.returned (.string (ofB (joinW 44 ((csE p.es k).map strL))))∧Below w1.heap.size w1 w') (fun e w' hh=>⟨hh.1,by rw [hh.2];exact Below.refl _ _⟩)
   have HEB:=Hd fun k (hk:k<p.es.length)=>(show(nmE p.es k).size≤100∧(ofB (joinW 44 ((csE p.es k).map strL))).size≤20000 from by
    obtain⟨a,b,c⟩:=cs_short ht.1 hk;refine⟨b,?_⟩
    have h1:=joinW_len (s:=44) (m:=1000) (l:=(csE p.es k).map strL) (fun x hx=>by
     obtain⟨s,hs,rfl⟩:=List.mem_map.1 hx;exact c s hs)
    rw [List.length_map] at h1;rw [ofB_sizeS];omega)
   have HEL:=Hd (enums_len ht.1);have HES:=Hd fun k (hk:k<p.es.length)=>(show enumsT (p.es.take (k+1))=enumsT (p.es.take k)++enumT (nmE p.es k,csE p.es k) from by rw [enums_snoc hk,enD]);have HNN:=Hd fun x A1 c1 A2 c2 A3 c3 A4 c4 w1 (a:RdE w1 E p.es.length p.es) (b:rdNC w1 x A1 A2 A3 A4) (hs:ShortN x)=>refNodeT p.es E ec x A1 c1 A2 c2 A3 c3 A4 c4 w1 a ht.1.short b hs;have HNS:=Hd fun k (hk:k<p.ns.length)=>(show ShortN (p.ns[k]?.getD default)∧nodeG (tyL p.es) (p.ns[k]?.getD default)=nodeT (tyL p.es) (p.ns[k]?.getD default) from⟨(tiny_at ht hk).short,nodeG_T (check_right hc _ (by rw [List.getElem?_eq_getElem hk];exact List.getElem_mem _))⟩);have HND:=Hd fun k (hk:k<p.ns.length)=>nodes_snoc (ty:=tyL p.es) hk
   have HNL:=Hd (show ∀ k,(nodesT (tyL p.es) (p.ns.take k)).length≤1200000000*k from nodes_len fun x hx=>by
    obtain⟨i,hi,rfl⟩:=List.getElem_of_mem hx;have h1:=HNS.out i hi;obtain⟨b,off,A1,c1,A2,c2,A3,c3,A4,c4,-,-,hrd,-⟩:=nd_atC h.2.1 hi;rw [List.getElem?_eq_getElem hi,Option.getD_some] at h1 hrd;rw [← h1.2,nodeG_head];have h2:=headG_len ht.1.short h1.1
    have h3:=eqs_len (l:=(p.ns[i]).eqs) (fun q hq=>by
     obtain⟨j,hj,rfl⟩:=List.getElem_of_mem hq;obtain⟨b,off,B,c,A',ca,B',cb,-,-,⟨-,-,ok,-⟩,-⟩:=qn_atC hrd.2 hj;rw [List.getElem?_eq_getElem hj,Option.getD_some] at ok;have hq2:=h1.1.2.2.2.2.2.2 _ hq;exact eqG_len hq2 (txX_len (num_of ok hq2.2.2.2))) (p.ns[i]).eqs.length
    rw [List.take_of_length_le (Nat.le_refl _)] at h3;have h4:=h1.1.2.2.2.2.1;simp only [List.length_append];have:telW.length=4:=rfl;omega)
   have HC0:=Hd hc;clear h ht HT0 hc;unfold pgA at HF HCK ⊢;unfold ndA at HNN;rw [HTX.out]
   go_enter Tryz.func9,Tryz.ntmps9
   go_upto_region 1 with(fail)
   generalize hw1:w.alloc _=w1;obtain⟨hb1,hg,-,hcell⟩:=HF.out w1 hw1;have HB1:=Hd hb1;have HC:=Hd hcell;have HRC1:=Hd (HRC.out.below hb1);have p0:=hcell w1 (Below.refl _ _) 0;have p1:=hcell w1 (Below.refl _ _) 1;simp only [Ya,Yb,Yc] at p0 p1;have HK:=Hd (HCK.out w1 (HRC1.out.plain));rw [HC0.out] at HK;clear hw1 hcell hb1 HF HRC HCK;generalize hen:p.es.length=ne at *;generalize hnn:p.ns.length=nn at *
   go_wp2_with fail
   refine HK.out.mono ?_;rintro e w2 ⟨rfl,hb2⟩;have HW2:=Hd hb2;clear hb2 p0 p1 HK
   go_wp2_with fail
   go_loopw [3,4] (fun s i wr=>∃ k:Nat,k≤ne∧i=.int .i64 k∧s=.string (ofB (enumsT (p.es.take k)))∧Below w1.heap.size w1 wr) (fun _ i _=>ne-(intOf i).toNat)
   case atStart=>exact⟨0,Nat.zero_le _,rfl,rfl,HW2.out⟩
   case round=>
    obtain⟨k,hk,rfl,rfl,hnx⟩:=hrel;have HNX:=Hd hnx;have hel:=HEL.out k;have q0:=HC.out wr hnx 0;simp only [Ya,Yb,Yc] at q0;have hsl:(ofB (enumsT (p.es.take k))).size≤20000*k:=by rw [ofB_sizeS];exact hel
    by_cases hlt:k<ne
    · obtain⟨b,off,rfl,hbl,hcc⟩:=(HRC1.out.below hnx).1.at_ (i:=k) (by rw [hen];exact hlt);obtain⟨d0,A',n',c',d1,hrt⟩:=hcc k (by rw [hen];exact hlt);have hbd:=HEB.out k hlt;have HSK:=Hd (HES.out k hlt);have HSC:=Hd fun w1 a=>HST.out A' n' c' k hlt w1 a;have HRT:=Hd hrt;clear hcc hrt hnx
      have HEQ:=Hd (show ofB (enumsT (p.es.take k))++(⟨#[101,110,117,109,32]⟩:ByteArray)++nmE p.es k++(⟨#[32,123,32]⟩:ByteArray)++ofB (joinW 44 ((csE p.es k).map strL))++(⟨#[32,125,59,10]⟩:ByteArray)=ofB (enumsT (p.es.take (k+1))) by
       rw [HSK.out];exact ba_ext (by simp [ofB,enumT,enumW];rfl))
      obtain⟨hb1',hb2'⟩:=hbd;generalize ofB (enumsT (p.es.take k))=sv at *;generalize ofB (joinW 44 ((csE p.es k).map strL))=ct at *;generalize nmE p.es k=nm at *;have x1:(9223372036854775807<sv.size+5)=False:=by rw [eq_iff_iff,iff_false];omega
      have x2:(9223372036854775807<sv.size+5+nm.size)=False:=by rw [eq_iff_iff,iff_false];omega
      have x3:(9223372036854775807<sv.size+5+nm.size+3)=False:=by rw [eq_iff_iff,iff_false];omega
      have x4:(9223372036854775807<sv.size+5+nm.size+3+ct.size)=False:=by rw [eq_iff_iff,iff_false];omega
      have x5:(9223372036854775807<sv.size+5+nm.size+3+ct.size+4)=False:=by rw [eq_iff_iff,iff_false];omega
      have HBR:=Hd fun d os=>below_regrown wr d os
      go_upto_region 7 with(fail)
      have m0:=fun d os=>cell_regrown q0 d os;have m1:=fun d os=>cell_regrown d0 d os;have m2:=fun d os=>cell_regrown d1 d os;have cS:=fun d os=>Calls.regrown_of (HSC.out (grow (redrawn wr d) os) (HRT.out.below (below_regrown wr d os)));refine wp_region_quiet_below (by kernel_rfl) (by kernel_rfl) ?_
      repeat (go_big_quiet_step (exact cS _ _))
      refine wpQuiet_nil ?_;intro _ hw3;obtain⟨⟨dq3,osq3⟩,hw33⟩:=hw3;have hbr3:=HBR.out dq3 osq3;rw [← hw33] at hbr3;clear cS m0 m1 m2 hw33 d0 d1 q0
      rename_i w9
      have HB9:=Hd (HNX.out.trans (hbr3.mono HNX.out.size));clear hbr3
      go_wp2_with fail
      go_roundw
      case rel=>exact⟨k+1,by omega,by go_num,by rw [← HEQ.out],HB9.out⟩
      case measure=>simp [intOf];omega
    · have hkn:k=ne:=by omega
      have hte:p.es.take k=p.es:=List.take_of_length_le (by omega);rw [hte] at hsl;rw [hte];clear hnx hte;generalize wr=wo at *;have hen8:ne≤8:=by omega
      go_wp2_with fail
      go_loopw [3,5] (fun s i wr=>∃ k:Nat,k≤nn∧i=.int .i64 k∧s=.string (ofB (enumsT p.es++nodesT (tyL p.es) (p.ns.take k)))∧Below w1.heap.size w1 wr) (fun _ i _=>nn-(intOf i).toNat)
      case atStart=>exact⟨0,Nat.zero_le _,rfl,by simp [nodesT],HNX.out⟩
      case round=>
       obtain⟨j,hj,rfl,rfl,hny⟩:=hrel;have HNY:=Hd hny;have q1:=HC.out wr hny 1;have q0':=HC.out wr hny 0;simp only [Ya,Yb,Yc] at q1 q0';have hnl:=HNL.out j
       have hsz:(ofB (enumsT p.es++nodesT (tyL p.es) (p.ns.take j))).size≤200000+1200000000*j:=by
        have h1:=hsl;rw [ofB_sizeS] at h1 ⊢;rw [List.length_append];omega
       by_cases hjt:j<nn
       · obtain⟨b,off,A1,c1,A2,c2,A3,c3,A4,c4,rfl,hbl,hrd,d0,d1,d2,d3,d4⟩:=nd_atC (HRC1.out.below hny).2.1 (by rw [hnn];exact hjt);obtain⟨hsh,hgt⟩:=HNS.out j hjt;have HSK:=Hd (HND.out j hjt);have HNC:=Hd fun w1 a b=>HNN.out (p.ns[j]?.getD default) A1 c1 A2 c2 A3 c3 A4 c4 w1 a b hsh;rw [hgt] at HNC;have HRD:=Hd hrd;have HRE:=Hd (HRC1.out.below hny).1;rw [hen] at HRE;have hln:=HNL.out (j+1);rw [HSK.out,List.length_append] at hln;have hly:(ofB (nodeT (tyL p.es) (p.ns[j]?.getD default))).size≤1200000000*(j+1):=by rw [ofB_sizeS];omega
         clear hrd hny hsh hgt
         have HEQ:=Hd (show ofB (enumsT p.es++nodesT (tyL p.es) (p.ns.take j))++ofB (nodeT (tyL p.es) (p.ns[j]?.getD default))=ofB (enumsT p.es++nodesT (tyL p.es) (p.ns.take (j+1))) by
          rw [HSK.out];exact ba_ext (by simp [ofB]))
         clear hln;generalize ofB (enumsT p.es++nodesT (tyL p.es) (p.ns.take j))=sv at *;generalize ofB (nodeT (tyL p.es) (p.ns[j]?.getD default))=nt at *;generalize p.ns[j]?.getD default=y at *;have x1:(9223372036854775807<sv.size+nt.size)=False:=by rw [eq_iff_iff,iff_false];omega
         have HBR:=Hd fun d os=>below_regrown wr d os
         go_upto_region 11 with(fail)
         have m0:=fun d os=>cell_regrown q0' d os;have m1:=fun d os=>cell_regrown q1 d os;have m2:=fun d os=>cell_regrown d0 d os;have m3:=fun d os=>cell_regrown d1 d os;have m4:=fun d os=>cell_regrown d2 d os;have m5:=fun d os=>cell_regrown d3 d os;have m6:=fun d os=>cell_regrown d4 d os;have cN:=fun d os=>Calls.regrown_of (HNC.out (grow (redrawn wr d) os) (HRE.out.below (below_regrown wr d os)) (HRD.out.below (below_regrown wr d os)));refine wp_region_quiet_below (by kernel_rfl) (by kernel_rfl) ?_
         repeat (go_big_quiet_step (exact cN _ _))
         refine wpQuiet_nil ?_;intro _ hw3;obtain⟨⟨dq3,osq3⟩,hw33⟩:=hw3;have hbr3:=HBR.out dq3 osq3;rw [← hw33] at hbr3;clear cN m0 m1 m2 m3 m4 m5 m6 hw33 d0 d1 d2 d3 d4 q1 q0'
         rename_i w9
         have HB9:=Hd (HNY.out.trans (hbr3.mono HNY.out.size));clear hbr3
         go_wp2_with fail
         go_roundw
         case rel=>exact⟨j+1,by omega,by go_num,by rw [← HEQ.out],HB9.out⟩
         case measure=>simp [intOf];omega
       · have hjn:j=nn:=by omega
         have HO:=Hd (show ofB (enumsT p.es++nodesT (tyL p.es) (p.ns.take j))=ofB (enumsT p.es++nodesT (tyL p.es) p.ns) by rw [List.take_of_length_le (by omega)]);clear hny
         go_wp2_with fail
         go_ret
         exact⟨ret_strV HO.out,HB1.out.trans (HNY.out.mono HB1.out.size)⟩
 · have HT:=Hd (HT0.out hc);have hne:(checkN p != 0)=true:=by rw [bne_iff_ne];exact hc
   clear HT0 hc h ht;unfold pgA at HF HCK ⊢;generalize checkN p=ck at *;generalize ofB (textP p)=out at *
   go_enter Tryz.func9,Tryz.ntmps9
   go_upto_region 1 with(fail)
   generalize hw1:w.alloc _=w1;obtain⟨hb1,hg,hR1,hcell⟩:=HF.out w1 hw1;have HB1:=Hd hb1;have p0:=hcell w1 (Below.refl _ _) 0;have p1:=hcell w1 (Below.refl _ _) 1;simp only [Ya,Yb,Yc] at p0 p1;have HK:=Hd (HCK.out w1 hR1);clear hw1 hcell hb1 HF HRC HCK hR1
   go_wp2_with fail
   refine HK.out.mono ?_;rintro e w2 ⟨rfl,hb2⟩;have HB2:=Hd (HB1.out.trans (hb2.mono HB1.out.size));clear hb2 p0 p1 HK
   go_wp2_with fail
   go_ret
   exact⟨ret_strV HT.out,HB2.out⟩
end
end Go.Proofs.YtpedcgpcchbhpaaGreatDoor
