/- Parts of the proof: PgZ, PkA. Conditions: each theorem's own. -/
import Derived.Test.YtpedcgpcchbhpaaGreatDoorU09
import Derived.Test.YtpedcgpcchbhpaaGreatDoorU21
import Derived.Test.YtpedcgpcchbhpaaGreatDoorU22
namespace Go.Proofs.YtpedcgpcchbhpaaGreatDoor
set_option linter.unusedVariables false
set_option linter.unusedSimpArgs false
set_option maxRecDepth 100000
set_option maxHeartbeats 40000000
section
set_option maxRecDepth 100000
open Go.RowKit Go.ChangeShapes Go.WideShapes Go.Deep
theorem cells_ds:Tryz.prog.cellsOf 29=1:=by kernel_rfl
theorem cells_qs:Tryz.prog.cellsOf 31=1:=by kernel_rfl
theorem cells_ns:Tryz.prog.cellsOf 23=1:=by kernel_rfl
theorem cells_es:Tryz.prog.cellsOf 22=1:=by kernel_rfl
theorem cells_pg:Tryz.prog.cellsOf 25=2:=by kernel_rfl
theorem cells_exZ:Tryz.prog.cellsOf 47=6:=by kernel_rfl
section
variable {H:Type}{enc:TypeId × Value→H}{w:World}{base:Nat}{spare:Nat→Bool}{held:Bool}
theorem rdS_open{α:Type} [Inhabited α] {k:Nat}{T ST:TypeId}{At:World→Nat→Nat→α→Prop}(hu:Tryz.prog.underlying ST=some (.slice T)) (hck:Tryz.prog.cellsOf T=k) (hk:0<k)
 (h1:∀ {w:World}{b o:Nat}{x:α},At w b o x→∃ v,w.cell? ⟨b,o,none⟩=some v)
 (hone:∀ {fuel:Nat}{cs:List Value}{x:DataW H × List MemPlace},DataW.trod enc Tryz.prog w base spare held fuel T cs=some x→cs.length=k→∃ e:α,∀ b o,(∀ j v,cs[j]?=some v→w.cell? ⟨b,o+j,none⟩=some v)→At w b o e)
 {fuel:Nat}{A:Option Addr}{n c:Nat}{x:DataW H × List MemPlace}(h:DataW.trod enc Tryz.prog w base spare held fuel ST [.slice A n c]=some x):∃ l,RdS k At w A n l:=by
 rcases open_slice hu h with⟨hcs,_⟩|⟨a,len,cap,m,nn,D,Pl,hcs,_,hl,hm,hmm,_,hi⟩
 · simp at hcs
   obtain⟨rfl,rfl,rfl⟩:=hcs;exact⟨[],RdS.nil_ _ _ _⟩
 · simp at hcs
   obtain⟨rfl,rfl,rfl⟩:=hcs;have hnm:n≤m:=by rw [hmm];split <;> omega
   have hsp:0<n→a.spot=none:=fun hn=>by
    obtain⟨cs',hc,ht⟩:=hi 0 (by omega);rw [hck] at hc;obtain⟨_,hcl,hat⟩:=World.cells?_some hc;have h0:=hat (i:=0) hk;rw [List.getElem?_eq_getElem (by omega)] at h0
    simpa [Addr.add] using World.cell?_spot h0
   have hf:∀ i,i<n→∃ e:α,∀ b off,a=⟨b,off,none⟩→At w b (off+i*k) e:=by
    intro i him;obtain⟨cs',hc,ht⟩:=hi i (by omega);rw [hck] at hc;obtain⟨_,hcl,hat⟩:=World.cells?_some hc;obtain⟨e,he⟩:=hone ht hcl;refine⟨e,fun b off ea=>he b (off+i*k) fun j v hv=>?_⟩
    have hj:j<k:=by
     rcases Nat.lt_or_ge j k with h | h
     · exact h
     · rw [List.getElem?_eq_none (by omega)] at hv;cases hv
    have h2:=hat (i:=j) hj;rw [hv] at h2;have hadd:∀ i,(⟨b,off,none⟩:Addr).add i=⟨b,off+i,none⟩:=fun i=>by unfold Addr.add;split <;> simp_all
    rw [Go.Deep.add_add,ea,hadd,← Nat.add_assoc] at h2;exact h2
   obtain⟨f,hf⟩:=choose_lt (α:=α) hf;have hget:∀ i,i<n→((List.range n).map f)[i]?.getD default=f i:=fun i hi=>by simp [List.getElem?_map,List.getElem?_range hi]
   refine⟨(List.range n).map f,by simp,by unfold maxLen at hm;omega,fun hn=>?_⟩;obtain⟨b,off,spot⟩:=a;have hspot:=hsp hn;simp only at hspot;subst hspot;have h0:=hf 0 hn b off rfl;obtain⟨v0,hv0⟩:=h1 h0;exact⟨b,off,rfl,World.block_lt_of_cell? _ _ hv0,fun i hi=>by rw [hget i hi];exact hf i hi b off rfl⟩
theorem dc_open{fuel:Nat}{cs:List Value}{x:DataW H × List MemPlace}(h:DataW.trod enc Tryz.prog w base spare held fuel 38 cs=some x) (hl:cs.length=6):∃ d:Dc,cs=dcL d:=by
 obtain⟨ys,m,_,_,_,hy,hf⟩:=DataW.trod_struct Tryz.underlying38 h
 match cs,hl with
 | [v0,v1,v2,v3,v4,v5],_=>
  match ys,hy with
  | [y0,y1,y2,y3],_=>
   have t0:=hf 0 _ rfl;have t1:=hf 1 _ rfl;have t2:=hf 2 _ rfl;have t3:=hf 3 _ rfl
   simp [cells_s,cells_ty] at t0 t1 t2 t3
   obtain⟨s0,e0,_,_⟩:=DataW.trod_string Tryz.underlying9 t0;obtain⟨tk,te,tl,e1⟩:=ty_cells t1 rfl;obtain⟨s2,e2,_,_⟩:=DataW.trod_string Tryz.underlying9 t2;obtain⟨s3,e3,_,_⟩:=DataW.trod_string Tryz.underlying9 t3;injection e0 with e0;injection e1 with e1 e1';injection e1' with e1' e1'';injection e1'' with e1'';injection e2 with e2;injection e3 with e3;subst e0 e1 e1' e1'' e2 e3;exact⟨⟨s0,tk,te,tl,s2,s3⟩,rfl⟩
theorem decls_open{fuel:Nat}{v:Value}{x:DataW H × List MemPlace}(h:DataW.trod enc Tryz.prog w base spare held fuel 29 [v]=some x):∃ A n c l,v=.slice A n c∧RdD w A n l:=by
 obtain⟨A,n,c,rfl⟩:∃ A n c,v=.slice A n c:=by
  rcases open_slice Tryz.underlying29 h with⟨hcs,_⟩|⟨a,len,cap,m,nn,D,Pl,hcs,_⟩
  · simp at hcs;exact⟨_,_,_,hcs⟩
  · simp at hcs;exact⟨_,_,_,hcs⟩
 obtain⟨l,hl⟩:=rdS_open (α:=Dc) (k:=6) (At:=DcAt) Tryz.underlying29 cells_dc (by decide) (fun h=>⟨_,h 0 _ rfl⟩) (fun ht hl=>by
  obtain⟨d,rfl⟩:=dc_open ht hl;exact⟨d,fun b o hc j v hv=>hc j v hv⟩) h
 exact⟨A,n,c,l,rfl,hl⟩
end
end
section
open Go.RowKit Go.ChangeShapes Go.WideShapes Go.Deep
set_option maxRecDepth 100000
def QnAtC(w:World) (b o:Nat) (q:Qn):Prop:=
 ∃ A c A' ca B' cb,w.cell? ⟨b,o,none⟩=some (.slice A q.ns.length c)∧RdT w A q.ns.length q.ns∧w.rangeAt b (o+1) (exL q.x A' ca B' cb)∧rdX w q.x A' B'∧OkX q.x∧q.x.subs.length≤cb∧capX w q.x B'∧q.ns.length≤c
def RdQC(w:World) (A:Option Addr) (n:Nat) (l:List Qn):Prop:=RdS 7 QnAtC w A n l
def rdNC(w:World) (n:Nd) (A1 A2 A3 A4:Option Addr):Prop:=rdN w n A1 A2 A3 A4∧RdQC w A4 n.eqs.length n.eqs
def NdAtC(w:World) (b o:Nat) (n:Nd):Prop:=
 ∃ A1 c1 A2 c2 A3 c3 A4 c4,w.rangeAt b o (ndL n A1 c1 A2 c2 A3 c3 A4 c4)∧rdNC w n A1 A2 A3 A4
def RdNsC(w:World) (A:Option Addr) (n:Nat) (l:List Nd):Prop:=RdS 5 NdAtC w A n l
def EnCap(w:World) (A:Option Addr) (n:Nat):Prop:=∀ b off,A=some ⟨b,off,none⟩→∀ i,i<n→∀ A' n' c',w.cell? ⟨b,off+i*2+1,none⟩=some (.slice A' n' c')→n'≤c'
theorem EnCap.below{w w':World}{A:Option Addr}{n:Nat}{es:List En}(h:EnCap w A n) (hE:RdE w A n es) (hb:Below w.heap.size w w'):EnCap w' A n:=by
 intro b off e i hi A' n' c' hc;obtain⟨b2,off2,e2,hlt,_⟩:=hE.2.2 (by omega);rw [e] at e2;injection e2 with e2;injection e2 with e3 e4 _;subst e3 e4;rw [hb.cell (p:=⟨b,off+i*2+1,none⟩) hlt] at hc;exact h b off e i hi A' n' c' hc
def rdPC(w:World) (p:Pg) (E N:Option Addr):Prop:=RdE w E p.es.length p.es∧RdNsC w N p.ns.length p.ns∧EnCap w E p.es.length
theorem RdS.mono{α:Type} [Inhabited α] {k:Nat}{At At':World→Nat→Nat→α→Prop}{w:World}{A:Option Addr}{n:Nat}{l:List α}(h:RdS k At w A n l) (hm:∀ b o x,At w b o x→At' w b o x):RdS k At' w A n l:=
 ⟨h.1,h.2.1,fun hn=>by
  obtain⟨b,off,e,hb,hc⟩:=h.2.2 hn;exact⟨b,off,e,hb,fun i hi=>hm _ _ _ (hc i hi)⟩⟩
section
variable {w w':World}{A A1 A2 A3 A4 E N:Option Addr}{n:Nat}
theorem RdQC.plain{l:List Qn}(h:RdQC w A n l):RdQ w A n l:=RdS.mono h fun b o x hx=>by
 obtain⟨B,c,A',ca,B',cb,h1,h2,h3,h4,_⟩:=hx;exact⟨B,c,A',ca,B',cb,h1,h2,h3,h4⟩
theorem RdNsC.plain{l:List Nd}(h:RdNsC w A n l):RdNs w A n l:=RdS.mono h fun b o x hx=>by
 obtain⟨A1,c1,A2,c2,A3,c3,A4,c4,h1,h2,_⟩:=hx;exact⟨A1,c1,A2,c2,A3,c3,A4,c4,h1,h2⟩
theorem rdPC.plain{p:Pg}(h:rdPC w p E N):rdP w p E N:=⟨h.1,h.2.1.plain⟩
theorem keeps_qnC:KeepsAt QnAtC:=fun h hb hs hk=>by
 obtain⟨A,c,A',ca,B',cb,h1,h2,h3,h4,h5,h6,h7,h8⟩:=h;exact⟨A,c,A',ca,B',cb,(hk _ hb).trans h1,h2.keep hs hk,rangeAt_keep h3 hb hk,h4.keep hs hk,h5,h6,capX_keep hk _ _ _ h4 h7,h8⟩
theorem RdQC.keep{l:List Qn}(h:RdQC w A n l) (hs:w.heap.size≤w'.heap.size) (hk:∀ p:Addr,p.block<w.heap.size→w'.cell? p=w.cell? p):RdQC w' A n l:=RdS.keep keeps_qnC h hs hk
theorem RdQC.below{l:List Qn}(h:RdQC w A n l) (hb:Below w.heap.size w w'):RdQC w' A n l:=h.keep hb.size fun _ hp=>hb.cell hp
theorem rdNC.keep{x:Nd}(h:rdNC w x A1 A2 A3 A4) (hs:w.heap.size≤w'.heap.size) (hk:∀ p:Addr,p.block<w.heap.size→w'.cell? p=w.cell? p):rdNC w' x A1 A2 A3 A4:=⟨h.1.keep hs hk,h.2.keep hs hk⟩
theorem rdNC.below{x:Nd}(h:rdNC w x A1 A2 A3 A4) (hb:Below w.heap.size w w'):rdNC w' x A1 A2 A3 A4:=h.keep hb.size fun _ hp=>hb.cell hp
theorem keeps_ndC:KeepsAt NdAtC:=fun h hb hs hk=>by
 obtain⟨A1,c1,A2,c2,A3,c3,A4,c4,h1,h2⟩:=h;exact⟨A1,c1,A2,c2,A3,c3,A4,c4,rangeAt_keep h1 hb hk,h2.keep hs hk⟩
theorem RdNsC.below{l:List Nd}(h:RdNsC w A n l) (hb:Below w.heap.size w w'):RdNsC w' A n l:=RdS.keep keeps_ndC h hb.size fun _ hp=>hb.cell hp
theorem rdPC.below{p:Pg}(h:rdPC w p E N) (hb:Below w.heap.size w w'):rdPC w' p E N:=⟨h.1.below hb,h.2.1.below hb,h.2.2.below h.1 hb⟩
theorem nd_atC{i:Nat}{l:List Nd}(h:RdNsC w A n l) (hi:i<n):
 ∃ b off A1 c1 A2 c2 A3 c3 A4 c4,A=some ⟨b,off,none⟩∧b<w.heap.size∧rdNC w (l[i]?.getD default) A1 A2 A3 A4 ∧
 w.cell? ⟨b,off+i*5,none⟩=some (.string (l[i]?.getD default).nm)∧w.cell? ⟨b,off+i*5+1,none⟩=some (.slice A1 (l[i]?.getD default).ins.length c1)∧w.cell? ⟨b,off+i*5+2,none⟩=some (.slice A2 (l[i]?.getD default).outs.length c2)∧w.cell? ⟨b,off+i*5+3,none⟩=some (.slice A3 (l[i]?.getD default).vars.length c3)∧w.cell? ⟨b,off+i*5+4,none⟩=some (.slice A4 (l[i]?.getD default).eqs.length c4):=by
 obtain⟨b,off,e,hb,hc⟩:=RdS.at_ h (by omega);obtain⟨A1,c1,A2,c2,A3,c3,A4,c4,h1,h2⟩:=hc i hi;obtain⟨d0,d1,d2,d3,d4⟩:=ndL_five h1;exact⟨b,off,A1,c1,A2,c2,A3,c3,A4,c4,e,hb,h2,d0,d1,d2,d3,d4⟩
theorem qn_atC{i:Nat}{l:List Qn}(h:RdQC w A n l) (hi:i<n):
 ∃ b off,∃ B c A' ca B' cb,A=some ⟨b,off,none⟩∧b<w.heap.size∧(RdT w B (l[i]?.getD default).ns.length (l[i]?.getD default).ns∧rdX w (l[i]?.getD default).x A' B'∧OkX (l[i]?.getD default).x∧(l[i]?.getD default).x.subs.length≤cb∧capX w (l[i]?.getD default).x B'∧(l[i]?.getD default).ns.length≤c) ∧
  w.cell? ⟨b,off+i*7,none⟩=some (.slice B (l[i]?.getD default).ns.length c)∧w.cell? ⟨b,off+i*7+1,none⟩=some (.int .i64 (l[i]?.getD default).x.k)∧w.cell? ⟨b,off+i*7+2,none⟩=some (.int .i64 (l[i]?.getD default).x.n) ∧
  w.cell? ⟨b,off+i*7+3,none⟩=some (.string (l[i]?.getD default).x.s)∧w.cell? ⟨b,off+i*7+4,none⟩=some (.int .i64 (l[i]?.getD default).x.op)∧w.cell? ⟨b,off+i*7+5,none⟩=some (.slice A' (l[i]?.getD default).x.arms.length ca)∧w.cell? ⟨b,off+i*7+6,none⟩=some (.slice B' (l[i]?.getD default).x.subs.length cb):=by
 obtain⟨b,off,e,hb,hc⟩:=RdS.at_ h (by omega);obtain⟨B,c,A',ca,B',cb,h0,h1,h2,h3,h4,h5,h6,h7⟩:=hc i hi;obtain⟨c0,c1,c2,c3,c4,c5⟩:=rangeAt_six h2;exact⟨b,off,B,c,A',ca,B',cb,e,hb,⟨h1,h3,h4,h5,h6,h7⟩,h0,c0,c1,c2,c3,c4,c5⟩
end
section
variable {H:Type}{enc:TypeId × Value→H}{w:World}{base:Nat}{spare:Nat→Bool}{held:Bool}
theorem strs_openC{fuel:Nat}{v:Value}{x:DataW H × List MemPlace}(h:DataW.trod enc Tryz.prog w base spare held fuel 44 [v]=some x):∃ A n c ss,v=.slice A n c∧RdT w A n ss∧n≤c:=by
 rcases Go.ChangeShapes.open_strings Tryz.underlying44 Tryz.underlying9 (by kernel_rfl) h with⟨hcs,_⟩|⟨x,l,c,ss,hcs,_,hl,hm,hss,_,hcell,hz⟩
 · simp at hcs
   subst hcs;exact⟨none,0,0,[],rfl,RdT.nil_ _,Nat.le_refl _⟩
 · simp at hcs
   subst hcs;have hle:l≤ss.length:=by rw [hss];split <;> omega
   exact⟨some x,l,c,ss.take l,rfl,rdT_arg hle (by unfold maxLen at hm;omega) hcell,by omega⟩
theorem en_openC{fuel:Nat}{cs:List Value}{x:DataW H × List MemPlace}(h:DataW.trod enc Tryz.prog w base spare held fuel 60 cs=some x) (hl:cs.length=2):
 ∃ e:En,∃ A n c,cs=[.string e.1,.slice A n c]∧RdT w A n e.2∧n≤c:=by
 obtain⟨ys,m,_,_,_,hy,hf⟩:=DataW.trod_struct Tryz.underlying60 h
 match cs,hl with
 | [v0,v1],_=>
  match ys,hy with
  | [y0,y1],_=>
   have t0:=hf 0 _ rfl;have t1:=hf 1 _ rfl
   simp [cells_sT,cells_ssT] at t0 t1
   obtain⟨s,e0,_,_⟩:=DataW.trod_string Tryz.underlying9 t0;obtain⟨A,n,c,ss,rfl,hr,hc⟩:=strs_openC t1;injection e0 with e0;subst e0;exact⟨(s,ss),A,n,c,rfl,hr,hc⟩
theorem enums_openC{fuel:Nat}{A:Option Addr}{n c:Nat}{x:DataW H × List MemPlace}(h:DataW.trod enc Tryz.prog w base spare held fuel 22 [.slice A n c]=some x):EnCap w A n:=by
 rcases open_slice Tryz.underlying22 h with⟨hcs,_⟩|⟨a,len,cap,m,nn,D,Pl,hcs,_,hl,hm,hmm,_,hi⟩
 · simp at hcs
   obtain⟨rfl,rfl,rfl⟩:=hcs;intro b off e
   cases e
 · simp at hcs
   obtain⟨rfl,rfl,rfl⟩:=hcs;have hnm:n≤m:=by rw [hmm];split <;> omega
   intro b off e i hin A2 n2 c2 hc2;injection e with e;subst e;obtain⟨cs',hc,ht⟩:=hi i (by omega);rw [cells_en] at hc;obtain⟨_,hcl,hat⟩:=World.cells?_some hc;obtain⟨e,A',n',c',e1,_,hp⟩:=en_openC ht hcl;have h1:=hat (i:=1) (by omega);rw [e1] at h1;rw [Go.Deep.add_add] at h1;have hadd:∀ i,(⟨b,off,none⟩:Addr).add i=⟨b,off+i,none⟩:=fun i=>by unfold Addr.add;split <;> simp_all
   rw [hadd,← Nat.add_assoc,hc2] at h1
   simp at h1
   obtain⟨rfl,rfl,rfl⟩:=h1;exact hp
theorem qn_openC{fuel:Nat}{cs:List Value}{x:DataW H × List MemPlace}(h:DataW.trod enc Tryz.prog w base spare held fuel 49 cs=some x) (hl:cs.length=7):
 ∃ (q:Qn) (A:Option Addr) (c:Nat) (A':Option Addr) (ca:Nat) (B':Option Addr) (cb:Nat),cs=.slice A q.ns.length c::exL q.x A' ca B' cb∧RdT w A q.ns.length q.ns∧rdX w q.x A' B'∧OkX q.x∧q.x.subs.length≤cb∧capX w q.x B'∧q.ns.length≤c:=by
 obtain⟨ys,m,_,_,_,hy,hf⟩:=DataW.trod_struct Tryz.underlying49 h
 match cs,hl with
 | [v0,v1,v2,v3,v4,v5,v6],_=>
  match ys,hy with
  | [y0,y1],_=>
   have t0:=hf 0 _ rfl;have t1:=hf 1 _ rfl
   simp [cells_ss,cells_exZ] at t0 t1
   obtain⟨A,n,c,ss,rfl,hr,hnc⟩:=strs_openC t0;obtain⟨X,A',ca,B',cb,e1,hx,hk1,hk2,hk3⟩:=ex_cellsC _ t1 rfl;have hn:=hr.len;subst hn;exact⟨⟨ss,X⟩,A,c,A',ca,B',cb,by rw [e1],hr,hx,hk1,hk2,hk3,hnc⟩
theorem eqs_openC{fuel:Nat}{v:Value}{x:DataW H × List MemPlace}(h:DataW.trod enc Tryz.prog w base spare held fuel 31 [v]=some x):∃ A n c l,v=.slice A n c∧RdQC w A n l:=by
 obtain⟨A,n,c,rfl⟩:∃ A n c,v=.slice A n c:=by
  rcases open_slice Tryz.underlying31 h with⟨hcs,_⟩|⟨a,len,cap,m,nn,D,Pl,hcs,_⟩
  · simp at hcs;exact⟨_,_,_,hcs⟩
  · simp at hcs;exact⟨_,_,_,hcs⟩
 obtain⟨l,hl⟩:=rdS_open (α:=Qn) (k:=7) (At:=QnAtC) Tryz.underlying31 cells_qn (by decide) (fun h=>by obtain⟨A,c,A',ca,B',cb,h1,_⟩:=h;exact⟨_,h1⟩) (fun ht hl=>by
  obtain⟨q,A,c,A',ca,B',cb,rfl,h1,h2,h3,h4,h5,h6⟩:=qn_openC ht hl;refine⟨q,fun b o hc=>⟨A,c,A',ca,B',cb,hc 0 _ rfl,h1,fun j v hv=>?_,h2,h3,h4,h5,h6⟩⟩;have:=hc (j+1) v hv;rwa [show o+(j+1)=o+1+j by omega] at this) h
 exact⟨A,n,c,l,rfl,hl⟩
theorem nd_openC{fuel:Nat}{cs:List Value}{x:DataW H × List MemPlace}(h:DataW.trod enc Tryz.prog w base spare held fuel 33 cs=some x) (hl:cs.length=5):
 ∃ (n:Nd) (A1:Option Addr) (c1:Nat) (A2:Option Addr) (c2:Nat) (A3:Option Addr) (c3:Nat) (A4:Option Addr) (c4:Nat),cs=ndL n A1 c1 A2 c2 A3 c3 A4 c4∧rdNC w n A1 A2 A3 A4:=by
 obtain⟨ys,m,_,_,_,hy,hf⟩:=DataW.trod_struct Tryz.underlying33 h
 match cs,hl with
 | [v0,v1,v2,v3,v4],_=>
  match ys,hy with
  | [y0,y1,y2,y3,y4],_=>
   have t0:=hf 0 _ rfl;have t1:=hf 1 _ rfl;have t2:=hf 2 _ rfl;have t3:=hf 3 _ rfl;have t4:=hf 4 _ rfl
   simp [cells_s,cells_ds,cells_qs] at t0 t1 t2 t3 t4
   obtain⟨s0,e0,_,_⟩:=DataW.trod_string Tryz.underlying9 t0;injection e0 with e0;subst e0;obtain⟨A1,n1,c1,l1,rfl,r1⟩:=decls_open t1;obtain⟨A2,n2,c2,l2,rfl,r2⟩:=decls_open t2;obtain⟨A3,n3,c3,l3,rfl,r3⟩:=decls_open t3;obtain⟨A4,n4,c4,l4,rfl,r4⟩:=eqs_openC t4;have h1:=RdS.len r1;have h2:=RdS.len r2;have h3:=RdS.len r3;have h4:=RdS.len r4;subst h1 h2 h3 h4;exact⟨⟨s0,l1,l2,l3,l4⟩,A1,c1,A2,c2,A3,c3,A4,c4,rfl,⟨r1,r2,r3,r4.plain⟩,r4⟩
theorem nodes_openC{fuel:Nat}{v:Value}{x:DataW H × List MemPlace}(h:DataW.trod enc Tryz.prog w base spare held fuel 23 [v]=some x):∃ A n c l,v=.slice A n c∧RdNsC w A n l:=by
 obtain⟨A,n,c,rfl⟩:∃ A n c,v=.slice A n c:=by
  rcases open_slice Tryz.underlying23 h with⟨hcs,_⟩|⟨a,len,cap,m,nn,D,Pl,hcs,_⟩
  · simp at hcs;exact⟨_,_,_,hcs⟩
  · simp at hcs;exact⟨_,_,_,hcs⟩
 obtain⟨l,hl⟩:=rdS_open (α:=Nd) (k:=5) (At:=NdAtC) Tryz.underlying23 cells_nd (by decide) (fun h=>by obtain⟨A1,c1,A2,c2,A3,c3,A4,c4,h1,_⟩:=h;exact⟨_,h1 0 _ rfl⟩) (fun ht hl=>by
  obtain⟨x,A1,c1,A2,c2,A3,c3,A4,c4,rfl,h1⟩:=nd_openC ht hl;exact⟨x,fun b o hc=>⟨A1,c1,A2,c2,A3,c3,A4,c4,fun j v hv=>hc j v hv,h1⟩⟩) h
 exact⟨A,n,c,l,rfl,hl⟩
theorem pg_openC{v:Value}{d:DataW H}{ps:List MemPlace}{r:Reach}{b0:Nat}(hv:Value.okWide Tryz.prog w r b0 25 v) (h:DataW.Trod enc Tryz.prog w base spare held 25 v d ps):
 ∃ (p:Pg) (E:Option Addr) (ec:Nat) (N:Option Addr) (nc:Nat),v=.agg (pgA p E ec N nc)∧rdPC w p E N:=by
 obtain⟨cs,rfl,hs⟩:=okWide_struct Tryz.underlying25 hv;obtain⟨fuel,hf⟩:=h;rw [cells_pg] at hs;have hl:(Value.agg cs).cells.toList.length=2:=by simpa [Value.cells] using hs
 obtain⟨ys,m,_,_,_,hy,hff⟩:=DataW.trod_struct Tryz.underlying25 hf
 obtain⟨v0,v1,hcs⟩:∃ v0 v1,(Value.agg cs).cells.toList=[v0,v1]:=by
  match (Value.agg cs).cells.toList,hl with
  | [v0,v1],_=>exact⟨v0,v1,rfl⟩
 rw [hcs] at hff
 match ys,hy with
 | [y0,y1],_=>
  have t0:=hff 0 _ rfl;have t1:=hff 1 _ rfl
  simp [cells_es,cells_ns] at t0 t1
  obtain⟨N,nn,nc,ns,rfl,hN⟩:=nodes_openC t1
  obtain⟨E,en,ec,rfl⟩:∃ A n c,v0=.slice A n c:=by
   rcases open_slice Tryz.underlying22 t0 with⟨h2,_⟩|⟨a,len,cap,m,nn,D,Pl,h2,_⟩
   · simp at h2;exact⟨_,_,_,h2⟩
   · simp at h2;exact⟨_,_,_,h2⟩
  obtain⟨es,hE⟩:=enums_open t0;have hEC:=enums_openC t0;have h1:=hE.len;have h2:=RdS.len hN;subst h1 h2;refine⟨⟨es,ns⟩,E,ec,N,nc,?_,hE,hN,hEC⟩
  congr 1
  apply Array.toList_inj.1
  simpa [Value.cells,pgA] using hcs
end
end
end Go.Proofs.YtpedcgpcchbhpaaGreatDoor
