/- A part of the proof. Conditions: each theorem's own. -/
import Derived.Test.YtagkcjpoipcpkaaGreatDoorF11
namespace Go.Proofs.YtagkcjpoipcpkaaGreatDoor
set_option linter.unusedVariables false
set_option linter.unusedSimpArgs false
set_option maxRecDepth 100000
set_option maxHeartbeats 40000000
section
open Go.RowKit Go.Sort
def dO(t:Tk):Array Value:=#[.int .i64 t.k,.string (aZ t.s),.int .i64 t.n,.int .i64 (t.a:Int)]
def iI(t:Tk):Value:=.agg (dO t)
def cI:Tk:=⟨0,[],0,0⟩
def bL(T:TypeId)(W:World)(g:Nat)(t:Tk):Prop:=W.heap[g]?=some (.cells (dO t) T)
section
variable {T:TypeId}{W W':World}{g i:Nat}{t:Tk}
theorem bL.lt(h:bL T W g t):g<W.heap.size:=(Ym.1 h).1
theorem bL.below(h:bL T W g t)(hb:Below W.heap.size W W'):bL T W' g t:=by
 unfold bL;rw[hb.block g h.lt];exact h
theorem bL.up(h:bL T W g t){B:Nat}(hb:Below B W W')(hg:g<B):bL T W' g t:=by
 unfold bL;rw[hb.block g hg];exact h
theorem bL.alloc(h:bL T W g t)(o:Obj):bL T (W.alloc o) g t:=h.below ((Yg _ _).alloc (Yh _) o)
theorem bL.drew(h:bL T W g t):bL T W.drew g t:=h
theorem bL.set(h:bL T W g t)(u:Tk):bL T (W.setRow g (dO u)) g u:=Xh _ _ _ _ _ _ h
theorem bL.other(h:bL T W g t)(Bv:g≠i)(cs:AV):bL T (W.setRow i cs) g t:=(setRow_other _ _ _ _ Bv).trans h
theorem bL.cell(h:bL T W g t)(j:Nat):W.cell? ⟨g,j,none⟩=(dO t)[j]?:=by
 have:=cell_setRow_same W g j _ (dO t) _ _ h
 rwa[setRow_self W g _ _ _ h]at this
theorem bL.c0(h:bL T W g t):W.cell? ⟨g,0,none⟩=some (.int .i64 t.k):=h.cell 0
theorem bL.c1(h:bL T W g t):W.cell? ⟨g,1,none⟩=some (.string (aZ t.s)):=h.cell 1
theorem bL.c2(h:bL T W g t):W.cell? ⟨g,2,none⟩=some (.int .i64 t.n):=h.cell 2
theorem bL.c3(h:bL T W g t):W.cell? ⟨g,3,none⟩=some (.int .i64 (t.a:Int)):=h.cell 3
theorem bL.new(T:TypeId)(W:World)(t:Tk):bL T (W.alloc (.cells (dO t) T)) W.heap.size t:=Xa _ _
end
theorem kZ:(Tryz.prog.info? 91).map (·.size)=some 4:=aE
theorem aR6{fn:Func}{p u v:Tmp}{ty:TypeId}(h:fn.results=#[.cell p ty,.tmp u,.tmp v])(tmps:AV)(P:Program)(w:World):
 (results fn tmps).run P w =
  ((asAddr (tmps.getD p undef)).run P w).andThen fun a w₁=>((loadVar ty a).run P w₁).andThen fun x w₂=>.ok (.tuple #[x,tmps.getD u undef,tmps.getD v undef]) w₂:=by
 simp only[results,h];simp[Sem.run_bind,Result.andThen]
theorem nM{fn:Func}{p u:Tmp}(h:fn.results=#[.cell p 91,.tmp u])(tmps:AV)(w:World)(g:Nat)(t:Tk)
 (hp:tmps.getD p undef=.pointer (some ⟨g,0,none⟩))(hg:bL 91 w g t):(results fn tmps).run Tryz.prog w=.ok (.tuple #[iI t,tmps.getD u undef]) w:=by
 rw[results_cell_tmp h,hp];have hl:=run_loadVar_row (P:=Tryz.prog) w g 91 91 _ _ _ hg Tryz.underlying91 rfl kZ;simp[asAddr,Result.andThen,hl];rfl
def dT:Option (Tk × Nat)->Value
 |some (t,z)=>.tuple #[iI t,.int .i64 (z:Int)]
 |none=>.tuple #[iI cI,.int .i64 0]
theorem aM9(s:BA)(n:Nat):(s.extract 0 n).data.toList=s.data.toList.take n:=by
 rw[Lib.extract_data];simp
end
section
open Go.RowKit Go.Sort
theorem bL1(s:BA)(w:World)(hs:s.size<=9223372036854775806)(h1:aQ (bO s.data.toList)=true):
 Calls Tryz.prog 77 #[.string s] w fun e w'=>e=.returned (dT (iP s.data.toList))/\Below w.heap.size w w':=by
 have Cz:(bO s.data.toList).length<=s.size:=yT;have hx:s.extract 0 (bO s.data.toList).length=aZ (bO s.data.toList):=wG yS;have HE:Hid (dT (iP s.data.toList)=.tuple #[iI ⟨1,bO s.data.toList,0,0⟩,.int .i64 ((bO s.data.toList).length:Nat)]):=Hd (by simp[iP,h1,dT]);have HR:=Hd (aHl s);have HL:=Hd (kR (aZ (bO s.data.toList)));have HW:=Hd (xS (aZ (bO s.data.toList)));have HH:=Hd (wD (aZ (bO s.data.toList)));rw[show(aZ (bO s.data.toList)).data.toList=bO s.data.toList from rfl]at HL HW HH;rw[h1]at HL;generalize bO s.data.toList=l at *;have Aa:(aZ l).size<=9223372036854775807:=aKu;have Ed:Hid (bL 91 (w.alloc (.cells #[.int .i64 0,.string ⟨#[]⟩,.int .i64 0,.int .i64 0] 91)) w.heap.size cI):=Hd (bL.new _ w cI);have Cd:Hid (Below w.heap.size w (w.alloc (.cells #[.int .i64 0,.string ⟨#[]⟩,.int .i64 0,.int .i64 0] 91))):=Hd ((Yg _ _).alloc (Yh _) _);go_in
 go_wp2_with fail;generalize (w.alloc (.cells #[.int .i64 0,.string ⟨#[]⟩,.int .i64 0,.int .i64 0] 91))=w1 at *;refine(HR.o w1 aA).mono ?_;rintro e w' ⟨rfl,rfl⟩;go_wp2_with fail;refine(HL.o _ Aa).mono ?_;rintro e w2 ⟨rfl,hb⟩;have Dl:=Hd (Ed.o.below hb);have Ai:=Hd (Cd.o.tr hb);clear hb;go_wp2_with (refine Zz rfl _ _ _ rfl w.heap.size _ rfl rfl _ _ Dl.o kZ rfl eC ?_);rw[HE.o];exact Zy (nM (p:=2) (u:=3) rfl _ _ w.heap.size ⟨1,l,0,0⟩ rfl (Dl.o.set ⟨1,l,0,0⟩)) rfl ⟨rfl,Xg Ai.o (Yh _) _⟩
theorem bKj(s:BA)(w:World)(hs:s.size<=9223372036854775806)(h1:aQ (bO s.data.toList)=false)(h2:bQ (bO s.data.toList)=true):
 Calls Tryz.prog 77 #[.string s] w fun e w'=>e=.returned (dT (iP s.data.toList))/\Below w.heap.size w w':=by
 have Cz:(bO s.data.toList).length<=s.size:=yT;have hx:s.extract 0 (bO s.data.toList).length=aZ (bO s.data.toList):=wG yS;have HE:Hid (dT (iP s.data.toList)=.tuple #[iI ⟨1,bO s.data.toList,0,0⟩,.int .i64 ((bO s.data.toList).length:Nat)]):=Hd (by simp[iP,h1,h2,dT]);have HR:=Hd (aHl s);have HL:=Hd (kR (aZ (bO s.data.toList)));have HW:=Hd (xS (aZ (bO s.data.toList)));have HH:=Hd (wD (aZ (bO s.data.toList)));rw[show(aZ (bO s.data.toList)).data.toList=bO s.data.toList from rfl]at HL HW HH;rw[h1]at HL;rw[h2]at HW;generalize bO s.data.toList=l at *;have Aa:(aZ l).size<=9223372036854775807:=aKu;have Ed:Hid (bL 91 (w.alloc (.cells #[.int .i64 0,.string ⟨#[]⟩,.int .i64 0,.int .i64 0] 91)) w.heap.size cI):=Hd (bL.new _ w cI);have Cd:Hid (Below w.heap.size w (w.alloc (.cells #[.int .i64 0,.string ⟨#[]⟩,.int .i64 0,.int .i64 0] 91))):=Hd ((Yg _ _).alloc (Yh _) _);go_in
 go_wp2_with fail;generalize (w.alloc (.cells #[.int .i64 0,.string ⟨#[]⟩,.int .i64 0,.int .i64 0] 91))=w1 at *;refine(HR.o w1 aA).mono ?_;rintro e w' ⟨rfl,rfl⟩;go_wp2_with fail;refine(HL.o _ Aa).mono ?_;rintro e w2 ⟨rfl,hb⟩;have Dl:=Hd (Ed.o.below hb);have Ai:=Hd (Cd.o.tr hb);clear hb;go_wp2_with fail;refine(HW.o _).mono ?_;rintro e w' ⟨rfl,rfl⟩;go_wp2_with (refine Zz rfl _ _ _ rfl w.heap.size _ rfl rfl _ _ Dl.o kZ rfl eC ?_);rw[HE.o];exact Zy (nM (p:=2) (u:=3) rfl _ _ w.heap.size ⟨1,l,0,0⟩ rfl (Dl.o.set ⟨1,l,0,0⟩)) rfl ⟨rfl,Xg Ai.o (Yh _) _⟩
theorem bKk(s:BA)(w:World)(hs:s.size<=9223372036854775806)(h1:aQ (bO s.data.toList)=false)(h2:bQ (bO s.data.toList)=false)(h3:dF (bO s.data.toList)=true):
 Calls Tryz.prog 77 #[.string s] w fun e w'=>e=.returned (dT (iP s.data.toList))/\Below w.heap.size w w':=by
 have Cz:(bO s.data.toList).length<=s.size:=yT;have hx:s.extract 0 (bO s.data.toList).length=aZ (bO s.data.toList):=wG yS;have HE:Hid (dT (iP s.data.toList)=.tuple #[iI ⟨2,bO s.data.toList,0,0⟩,.int .i64 ((bO s.data.toList).length:Nat)]):=Hd (by simp[iP,h1,h2,h3,dT]);have HR:=Hd (aHl s);have HL:=Hd (kR (aZ (bO s.data.toList)));have HW:=Hd (xS (aZ (bO s.data.toList)));have HH:=Hd (wD (aZ (bO s.data.toList)));rw[show(aZ (bO s.data.toList)).data.toList=bO s.data.toList from rfl]at HL HW HH;rw[h1]at HL;rw[h2]at HW;rw[h3]at HH;generalize bO s.data.toList=l at *;have Aa:(aZ l).size<=9223372036854775807:=aKu;have Ed:Hid (bL 91 (w.alloc (.cells #[.int .i64 0,.string ⟨#[]⟩,.int .i64 0,.int .i64 0] 91)) w.heap.size cI):=Hd (bL.new _ w cI);have Cd:Hid (Below w.heap.size w (w.alloc (.cells #[.int .i64 0,.string ⟨#[]⟩,.int .i64 0,.int .i64 0] 91))):=Hd ((Yg _ _).alloc (Yh _) _);go_in
 go_wp2_with fail;generalize (w.alloc (.cells #[.int .i64 0,.string ⟨#[]⟩,.int .i64 0,.int .i64 0] 91))=w1 at *;refine(HR.o w1 aA).mono ?_;rintro e w' ⟨rfl,rfl⟩;go_wp2_with fail;refine(HL.o _ Aa).mono ?_;rintro e w2 ⟨rfl,hb⟩;have Dl:=Hd (Ed.o.below hb);have Ai:=Hd (Cd.o.tr hb);clear hb;go_wp2_with fail;refine(HW.o _).mono ?_;rintro e w' ⟨rfl,rfl⟩;go_wp2_with fail;refine(HH.o _ Aa).mono ?_;rintro e w3 ⟨rfl,hb⟩;have Ae:=Hd (Dl.o.below hb);have Aj:=Hd (Ai.o.tr hb);clear hb;go_wp2_with (refine Zz rfl _ _ _ rfl w.heap.size _ rfl rfl _ _ Ae.o kZ rfl eC ?_);rw[HE.o];exact Zy (nM (p:=2) (u:=3) rfl _ _ w.heap.size ⟨2,l,0,0⟩ rfl (Ae.o.set ⟨2,l,0,0⟩)) rfl ⟨rfl,Xg Aj.o (Yh _) _⟩
theorem bKl(s:BA)(w:World)(hs:s.size<=9223372036854775806)(h1:aQ (bO s.data.toList)=false)(h2:bQ (bO s.data.toList)=false)(h3:dF (bO s.data.toList)=false):
 Calls Tryz.prog 77 #[.string s] w fun e w'=>e=.returned (dT (iP s.data.toList))/\Below w.heap.size w w':=by
 have Cz:(bO s.data.toList).length<=s.size:=yT;have hx:s.extract 0 (bO s.data.toList).length=aZ (bO s.data.toList):=wG yS;have HE:Hid (dT (iP s.data.toList)=.tuple #[iI cI,.int .i64 0]):=Hd (by simp[iP,h1,h2,h3,dT]);have HR:=Hd (aHl s);have HL:=Hd (kR (aZ (bO s.data.toList)));have HW:=Hd (xS (aZ (bO s.data.toList)));have HH:=Hd (wD (aZ (bO s.data.toList)));rw[show(aZ (bO s.data.toList)).data.toList=bO s.data.toList from rfl]at HL HW HH;rw[h1]at HL;rw[h2]at HW;rw[h3]at HH;generalize bO s.data.toList=l at *;have Aa:(aZ l).size<=9223372036854775807:=aKu;have Ed:Hid (bL 91 (w.alloc (.cells #[.int .i64 0,.string ⟨#[]⟩,.int .i64 0,.int .i64 0] 91)) w.heap.size cI):=Hd (bL.new _ w cI);have Cd:Hid (Below w.heap.size w (w.alloc (.cells #[.int .i64 0,.string ⟨#[]⟩,.int .i64 0,.int .i64 0] 91))):=Hd ((Yg _ _).alloc (Yh _) _);go_in
 go_wp2_with fail;generalize (w.alloc (.cells #[.int .i64 0,.string ⟨#[]⟩,.int .i64 0,.int .i64 0] 91))=w1 at *;refine(HR.o w1 aA).mono ?_;rintro e w' ⟨rfl,rfl⟩;go_wp2_with fail;refine(HL.o _ Aa).mono ?_;rintro e w2 ⟨rfl,hb⟩;have Dl:=Hd (Ed.o.below hb);have Ai:=Hd (Cd.o.tr hb);clear hb;go_wp2_with fail;refine(HW.o _).mono ?_;rintro e w' ⟨rfl,rfl⟩;go_wp2_with fail;refine(HH.o _ Aa).mono ?_;rintro e w3 ⟨rfl,hb⟩;have Ae:=Hd (Dl.o.below hb);have Aj:=Hd (Ai.o.tr hb);clear hb;go_wp2_with (refine Zz rfl _ _ _ rfl w.heap.size _ rfl rfl _ _ Ae.o kZ rfl eC ?_);rw[HE.o];exact Zy (nM (p:=2) (u:=3) rfl _ _ w.heap.size cI rfl (Ae.o.set cI)) rfl ⟨rfl,Xg Aj.o (Yh _) _⟩
theorem cAc(s:BA)(w:World)(hs:s.size<=9223372036854775806):
 Calls Tryz.prog 77 #[.string s] w fun e w'=>e=.returned (dT (iP s.data.toList))/\Below w.heap.size w w':=by
 cases h1:aQ (bO s.data.toList)with
 |true=>exact bL1 s w hs h1
 |false=>
  cases h2:bQ (bO s.data.toList)with
  |true=>exact bKj s w hs h1 h2
  |false=>
   cases h3:dF (bO s.data.toList)with
   |true=>exact bKk s w hs h1 h2 h3
   |false=>exact bKl s w hs h1 h2 h3
theorem aH4{l:LU}{c:UInt8}{r:LU}(h:dR l=c::r):l.head?=some c:=by
 cases l with
 |nil=>simp[dR]at h
 |cons d l=>
  unfold dR at h;rw[List.takeWhile_cons]at h;split at h
  . injection h with h _;rw[h];rfl
  . cases h
theorem bJu(s:BA)(w:World)(hs:s.size<=281474976710656)(hv:iV w)(c:UInt8)(r:LU)(hd:dR s.data.toList=c::r)(hb:9223372036854775807<jH (c::r))(h1:True)(h2:True):
 Calls Tryz.prog 79 #[.string s] w fun e w'=>e=.returned (dT (kD s.data.toList))/\Below w.heap.size w w':=by
 have Cz:(dR s.data.toList).length<=s.size:=yT;have hx:s.extract 0 (dR s.data.toList).length=aZ (dR s.data.toList):=wG yS;have Ae:∀c∈dR s.data.toList,cC (c.toNat:Int)=true:=aFi _;have Aa:=aH4 hd;have HE:Hid (dT (kD s.data.toList)=.tuple #[iI cI,.int .i64 0]):=Hd (by rw[kD,hd,Aa,if_pos (.inr hb)];rfl);have HR:=Hd (aH1 s);rw[hd]at HR hx Cz Ae;have Ef:s.extract 0 (r.length+1)=aZ (c::r):=hx;clear hx;have Bv:(aZ (c::r)).data.toList≠[]:=aKv;have Cm:(aZ (c::r)).size=r.length+1:=rfl;have Bs:(aZ (c::r)).size<=281474976710656:=aKp;have Ct:0<(aZ (c::r)).size:=aJi;have HV:=Hd hv;clear hv;have Ed:Hid (bL 91 (w.alloc (.cells #[.int .i64 0,.string ⟨#[]⟩,.int .i64 0,.int .i64 0] 91)) w.heap.size cI):=Hd (bL.new _ w cI);have Cd:Hid (Below w.heap.size w (w.alloc (.cells #[.int .i64 0,.string ⟨#[]⟩,.int .i64 0,.int .i64 0] 91))):=Hd ((Yg _ _).alloc (Yh _) _);go_in
 go_wp2_with fail;have Ge:=Hd (HV.o.below (Cd.o));generalize (w.alloc (.cells #[.int .i64 0,.string ⟨#[]⟩,.int .i64 0,.int .i64 0] 91))=w1 at *;clear HV;refine(HR.o w1 aA).mono ?_;rintro e w' ⟨rfl,rfl⟩;have Aq:(((c::r).length:Nat):Int)=(r.length:Int)+1:=aC;go_wp2_with fail;refine(bKi _ _ Bv Ae Bs hb Ge.o).mono ?_;rintro e w2 ⟨⟨z,N,rfl⟩,Ag⟩;have Dl:=Hd (Ed.o.below Ag);have Ai:=Hd (Cd.o.tr Ag);clear Ag hb;go_wp2_with (refine Zz rfl _ _ _ rfl w.heap.size _ rfl rfl _ _ Dl.o kZ rfl eC ?_);rw[HE.o];exact Zy (nM (p:=2) (u:=3) rfl _ _ w.heap.size cI rfl (Dl.o.set cI)) rfl ⟨rfl,Xg Ai.o (Yh _) _⟩
theorem bI9(s:BA)(w:World)(hs:s.size<=281474976710656)(hv:iV w)(c:UInt8)(r:LU)(hd:dR s.data.toList=c::r)(hb:jH (c::r)<=9223372036854775807)(h1:0<r.length)(h2:c=48):
 Calls Tryz.prog 79 #[.string s] w fun e w'=>e=.returned (dT (kD s.data.toList))/\Below w.heap.size w w':=by
 have Cz:(dR s.data.toList).length<=s.size:=yT;have hx:s.extract 0 (dR s.data.toList).length=aZ (dR s.data.toList):=wG yS;have Ae:∀c∈dR s.data.toList,cC (c.toNat:Int)=true:=aFi _;have Aa:=aH4 hd;have HE:Hid (dT (kD s.data.toList)=.tuple #[iI cI,.int .i64 0]):=Hd (by rw[kD,hd,Aa,if_pos (.inl ⟨by simp;omega,by rw[h2]⟩)];rfl);have HR:=Hd (aH1 s);rw[hd]at HR hx Cz Ae;have Ef:s.extract 0 (r.length+1)=aZ (c::r):=hx;clear hx;have Bv:(aZ (c::r)).data.toList≠[]:=aKv;have Cm:(aZ (c::r)).size=r.length+1:=rfl;have Ha:(aZ (c::r)).size<=281474976710656:=aKp;have Bs:0<(aZ (c::r)).size:=aJi;have Aq:((((aZ (c::r))[0]'Bs).toNat:Int)==48)=true:=by rw[h2];rfl
 have Fs:=Hd Aq;have Bi:=Hd h1;clear Aq h1 h2 Aa;clear hv;have Ed:Hid (bL 91 (w.alloc (.cells #[.int .i64 0,.string ⟨#[]⟩,.int .i64 0,.int .i64 0] 91)) w.heap.size cI):=Hd (bL.new _ w cI);have Cd:Hid (Below w.heap.size w (w.alloc (.cells #[.int .i64 0,.string ⟨#[]⟩,.int .i64 0,.int .i64 0] 91))):=Hd ((Yg _ _).alloc (Yh _) _);go_in
 go_wp2_with fail;generalize (w.alloc (.cells #[.int .i64 0,.string ⟨#[]⟩,.int .i64 0,.int .i64 0] 91))=w1 at *;refine(HR.o w1 aA).mono ?_;rintro e w' ⟨rfl,rfl⟩;have Ct:(((c::r).length:Nat):Int)=(r.length:Int)+1:=aC;go_wp2_with fail;refine(aLm _ _ Bv Ae Ha hb).mono ?_;rintro e w2 ⟨rfl,Ag⟩;have Dl:=Hd (Ed.o.below Ag);have Ai:=Hd (Cd.o.tr Ag);clear Ag hb;have hr:=Bi.o;have Aq:=Fs.o;clear Ae;rw[aBy];go_wp2_with (refine Zz rfl _ _ _ rfl w.heap.size _ rfl rfl _ _ Dl.o kZ rfl eC ?_);rw[HE.o];exact Zy (nM (p:=2) (u:=3) rfl _ _ w.heap.size cI rfl (Dl.o.set cI)) rfl ⟨rfl,Xg Ai.o (Yh _) _⟩
theorem bJv(s:BA)(w:World)(hs:s.size<=281474976710656)(hv:iV w)(c:UInt8)(hd:dR s.data.toList=[c])(hb:jH [c]<=9223372036854775807):
 Calls Tryz.prog 79 #[.string s] w fun e w'=>e=.returned (dT (kD s.data.toList))/\Below w.heap.size w w':=by
 have Cz:(dR s.data.toList).length<=s.size:=yT;have hx:s.extract 0 (dR s.data.toList).length=aZ (dR s.data.toList):=wG yS;have Aa:∀c∈dR s.data.toList,cC (c.toNat:Int)=true:=aFi _;have Ae:=aH4 hd;have HE:Hid (dT (kD s.data.toList)=.tuple #[iI ⟨3,[c],(jH [c]:Int),0⟩,.int .i64 1]):=Hd (by rw[kD,hd,Ae,if_neg (fun h=>by rcases h with⟨a,_⟩|b;simp at a;omega)];rfl);have HR:=Hd (aH1 s);rw[hd]at HR hx Cz Aa;have Ef:s.extract 0 1=aZ ([c]):=hx;clear hx;have Bv:(aZ ([c])).data.toList≠[]:=aKv;have Cm:(aZ ([c])).size=1:=rfl;have Bs:(aZ ([c])).size<=281474976710656:=aKp;have Ct:0<(aZ ([c])).size:=aJi;have Aq:1<=s.size:=Cz;clear hv;have Ed:Hid (bL 91 (w.alloc (.cells #[.int .i64 0,.string ⟨#[]⟩,.int .i64 0,.int .i64 0] 91)) w.heap.size cI):=Hd (bL.new _ w cI);have Cd:Hid (Below w.heap.size w (w.alloc (.cells #[.int .i64 0,.string ⟨#[]⟩,.int .i64 0,.int .i64 0] 91))):=Hd ((Yg _ _).alloc (Yh _) _);go_in
 go_wp2_with fail;generalize (w.alloc (.cells #[.int .i64 0,.string ⟨#[]⟩,.int .i64 0,.int .i64 0] 91))=w1 at *;refine(HR.o w1 aA).mono ?_;rintro e w' ⟨rfl,rfl⟩;go_wp2_with fail;refine(aLm _ _ Bv Aa Bs hb).mono ?_;rintro e w2 ⟨rfl,Ag⟩;have Dl:=Hd (Ed.o.below Ag);have Ai:=Hd (Cd.o.tr Ag);clear Ag hb;clear Aa;rw[aBy];go_wp2_with (refine Zz rfl _ _ _ rfl w.heap.size _ rfl rfl _ _ Dl.o kZ rfl eC ?_);rw[HE.o];exact Zy (nM (p:=2) (u:=3) rfl _ _ w.heap.size ⟨3,[c],(jH [c]:Int),0⟩ rfl (Dl.o.set ⟨3,[c],(jH [c]:Int),0⟩)) rfl ⟨rfl,Xg Ai.o (Yh _) _⟩
theorem bJj(s:BA)(w:World)(hs:s.size<=281474976710656)(hv:iV w)(c:UInt8)(r:LU)(hd:dR s.data.toList=c::r)(hb:jH (c::r)<=9223372036854775807)(h1:0<r.length)(h2:¬c=48):
 Calls Tryz.prog 79 #[.string s] w fun e w'=>e=.returned (dT (kD s.data.toList))/\Below w.heap.size w w':=by
 have Cz:(dR s.data.toList).length<=s.size:=yT;have hx:s.extract 0 (dR s.data.toList).length=aZ (dR s.data.toList):=wG yS;have Ae:∀c∈dR s.data.toList,cC (c.toNat:Int)=true:=aFi _;have Aa:=aH4 hd;have HE:Hid (dT (kD s.data.toList)=.tuple #[iI ⟨3,c::r,(jH (c::r):Int),0⟩,.int .i64 ((r.length:Int)+1)]):=Hd (by rw[kD,hd,Aa,if_neg (fun h=>by rcases h with⟨_,b⟩|b;exact h2 (Option.some.inj b);omega)];rfl);have HR:=Hd (aH1 s);rw[hd]at HR hx Cz Ae;have Ef:s.extract 0 (r.length+1)=aZ (c::r):=hx;clear hx;have Bv:(aZ (c::r)).data.toList≠[]:=aKv;have Cm:(aZ (c::r)).size=r.length+1:=rfl;have Ha:(aZ (c::r)).size<=281474976710656:=aKp;have Bs:0<(aZ (c::r)).size:=aJi;have Aq:((((aZ (c::r))[0]'Bs).toNat:Int)==48)=false:=by
  have:(aZ (c::r))[0]'Bs=c:=rfl
  rw[this];have h3:¬c.toNat=48:=fun e=>h2 (UInt8.toNat_inj.1 e);simp;omega
 have Fs:=Hd Aq;have Bi:=Hd h1;clear Aq h1 h2 Aa;clear hv;have Ed:Hid (bL 91 (w.alloc (.cells #[.int .i64 0,.string ⟨#[]⟩,.int .i64 0,.int .i64 0] 91)) w.heap.size cI):=Hd (bL.new _ w cI);have Cd:Hid (Below w.heap.size w (w.alloc (.cells #[.int .i64 0,.string ⟨#[]⟩,.int .i64 0,.int .i64 0] 91))):=Hd ((Yg _ _).alloc (Yh _) _);go_in
 go_wp2_with fail;generalize (w.alloc (.cells #[.int .i64 0,.string ⟨#[]⟩,.int .i64 0,.int .i64 0] 91))=w1 at *;refine(HR.o w1 aA).mono ?_;rintro e w' ⟨rfl,rfl⟩;have Ct:(((c::r).length:Nat):Int)=(r.length:Int)+1:=aC;go_wp2_with fail;refine(aLm _ _ Bv Ae Ha hb).mono ?_;rintro e w2 ⟨rfl,Ag⟩;have Dl:=Hd (Ed.o.below Ag);have Ai:=Hd (Cd.o.tr Ag);clear Ag hb;have hr:=Bi.o;have Aq:=Fs.o;clear Ae;rw[aBy];go_wp2_with (refine Zz rfl _ _ _ rfl w.heap.size _ rfl rfl _ _ Dl.o kZ rfl eC ?_);rw[HE.o];exact Zy (nM (p:=2) (u:=3) rfl _ _ w.heap.size ⟨3,c::r,(jH (c::r):Int),0⟩ rfl (Dl.o.set ⟨3,c::r,(jH (c::r):Int),0⟩)) rfl ⟨rfl,Xg Ai.o (Yh _) _⟩
theorem bSw(s:BA)(w:World)(hs:s.size<=281474976710656)(hv:iV w)(h0:dR s.data.toList≠[]):
 Calls Tryz.prog 79 #[.string s] w fun e w'=>e=.returned (dT (kD s.data.toList))/\Below w.heap.size w w':=by
 cases hd:dR s.data.toList with
 |nil=>exact absurd hd h0
 |cons c r=>
  by_cases hb:9223372036854775807<jH (c::r);· exact bJu s w hs hv c r hd hb trivial trivial
  . by_cases h1:0<r.length
    . by_cases h2:c=48;· exact bI9 s w hs hv c r hd aA h1 h2
      . exact bJj s w hs hv c r hd aA h1 h2
    . obtain rfl:r=[]:=Zu aA;exact bJv s w hs hv c hd aA
theorem bSx{l a b:LU}{f:Bool}(hc:(39:UInt8)∉a)(hf:f=false->l=a)(ht:f=true->l=a++39::b):aC8 l=a/\(decide (a.length<l.length)=f):=by
 have ha:∀c∈a,(fun c:UInt8=>c !=39) c=true:=fun c h=>by
  have:c≠39:=fun e=>hc (e ▸ h)
  simpa using this
 cases f with
 |false=>exact⟨aAv ha (.inl (hf rfl)),by rw[hf rfl];simp⟩
 |true=>exact⟨aAv ha (.inr ⟨39,b,ht rfl,by decide⟩),by rw[ht rfl];simp⟩
theorem aXa(s:BA):(s.extract 1 s.size).data.toList=s.data.toList.drop 1:=by
 exact aPy
theorem cAd(s:BA)(w:World)(hs:s.size<=281474976710656)(h1:1<=s.size):
 Calls Tryz.prog 80 #[.string s] w fun e w'=>e=.returned (dT (nU (s.data.toList.drop 1)))/\Below w.heap.size w w':=by
 have Au:(s.extract 1 s.size).size<=s.size:=by rw[Zp,aXa,Zv,Zp];omega
 have HX:=Hd (aXa s);have Ed:Hid (bL 91 (w.alloc (.cells #[.int .i64 0,.string ⟨#[]⟩,.int .i64 0,.int .i64 0] 91)) w.heap.size cI):=Hd (bL.new _ w cI);have Cd:Hid (Below w.heap.size w (w.alloc (.cells #[.int .i64 0,.string ⟨#[]⟩,.int .i64 0,.int .i64 0] 91))):=Hd ((Yg _ _).alloc (Yh _) _);go_in
 go_wp2_with fail;generalize (w.alloc (.cells #[.int .i64 0,.string ⟨#[]⟩,.int .i64 0,.int .i64 0] 91))=w1 at *;refine(aIz (s.extract 1 s.size) 39 _ aA).mono ?_;rintro e w2 ⟨a,b,f,rfl,hb,hc,hf,ht⟩;rw[HX.o]at hf ht;have Ae:a.size<=s.size:=by
  have h3:s.data.toList.length=s.size:=(Zp s).symm;have h4:(s.data.toList.drop 1).length=s.size-1:=by rw[Zv,h3]
  rw[Zp];cases f with
  |false=>rw[<-hf rfl];omega
  |true=>have:=congrArg List.length (ht rfl);simp only[Yo,Yq]at this;omega
 obtain⟨q1,q2⟩:=bSx hc hf ht;have Dl:=Hd (Ed.o.below hb);have Ai:=Hd (Cd.o.tr hb);clear hb hc hf ht Au;cases f with
 |false=>
  have HE:Hid (dT (nU (s.data.toList.drop 1))=.tuple #[iI cI,.int .i64 0]):=Hd (by rw[nU,q1,if_neg (fun h=>of_decide_eq_false q2 h.1)];rfl);clear q1 q2 HX;go_wp2_with (refine Zz rfl _ _ _ rfl w.heap.size _ rfl rfl _ _ Dl.o kZ rfl eC ?_);rw[HE.o];exact bCd
 |true=>
  cases hp:fJ a.data.toList with
  |false=>
   have HE:Hid (dT (nU (s.data.toList.drop 1))=.tuple #[iI cI,.int .i64 0]):=Hd (by rw[nU,q1,if_neg (fun h=>by rw[hp]at h;exact absurd h.2 aC)];rfl);clear q1 q2 HX;have HP:=Hd (aOh a);rw[hp]at HP;clear hp;go_wp2_with fail;refine(HP.o _ aA).mono ?_;rintro e w3 ⟨rfl,hb⟩;have Aa:=Hd (Dl.o.below hb);have Aj:=Hd (Ai.o.tr hb);clear hb;go_wp2_with (refine Zz rfl _ _ _ rfl w.heap.size _ rfl rfl _ _ Aa.o kZ rfl eC ?_);rw[HE.o];exact Zy (nM (p:=2) (u:=3) rfl _ _ w.heap.size cI rfl (Aa.o.set cI)) rfl ⟨rfl,Xg Aj.o (Yh _) _⟩
  |true=>
   have HE:Hid (dT (nU (s.data.toList.drop 1))=.tuple #[iI ⟨4,a.data.toList,0,0⟩,.int .i64 (1+(a.size:Int)+1)]):=Hd (by
    have hz:((a.data.toList.length+2:Nat):Int)=1+(a.size:Int)+1:=by rw[Zp];omega
    rw[nU,q1,if_pos ⟨of_decide_eq_true q2,hp⟩];show Value.tuple #[_,.int .i64 ((a.data.toList.length+2:Nat):Int)]=_;rw[hz])
   clear q1 q2 HX;have HP:=Hd (aOh a);rw[hp]at HP;clear hp;go_wp2_with fail;refine(HP.o _ aA).mono ?_;rintro e w3 ⟨rfl,hb⟩;have Aa:=Hd (Dl.o.below hb);have Aj:=Hd (Ai.o.tr hb);clear hb;go_wp2_with (refine Zz rfl _ _ _ rfl w.heap.size _ rfl rfl _ _ Aa.o kZ rfl eC ?_);rw[HE.o];exact Zy (nM (p:=2) (u:=3) rfl _ _ w.heap.size ⟨4,a.data.toList,0,0⟩ rfl (Aa.o.set ⟨4,a.data.toList,0,0⟩)) rfl ⟨rfl,Xg Aj.o (Yh _) _⟩
theorem bL2:(Tryz.prog.info? 192).map (·.size)=some aAl.size:=aE
theorem bWs(k:Nat)(h:k<21):∃m:List UInt8,aAl[k]?=some (.string (aZ m))/\iD.drop k=m::iD.drop (k+1)/\m.length<=2:=by
 have h2:k<iD.length:=h;have h3:∀m∈iD,m.length<=2:=aF;refine⟨iD[k]'h2,?_,List.drop_eq_getElem_cons h2,h3 _ (Zk _)⟩;simp[aAl,Yk h2]
theorem bOq(ms:AV)(k:Nat)(h:k<21)(x:BA)(hx:ms[k]?=some (.string x))(W:World):
 (Instr.index 192 (.agg ms) (.int .i64 (k:Int))).run Tryz.prog W=.ok (.string x) W:=by
 simp[Instr.index,run_underlying Tryz.underlying192,asIntOf,h,hx,go_sem]
theorem cAe(s:BA)(w:World)(hs:s.size<=281474976710656)(hv:iV w):
 Calls Tryz.prog 81 #[.string s] w fun e w'=>e=.returned (dT (pM s.data.toList))/\Below w.heap.size w w':=by
 have Ed:Hid (bL 91 (w.alloc (.cells #[.int .i64 0,.string ⟨#[]⟩,.int .i64 0,.int .i64 0] 91)) w.heap.size cI):=Hd (bL.new _ w cI);have Cd:Hid (Below w.heap.size w (w.alloc (.cells #[.int .i64 0,.string ⟨#[]⟩,.int .i64 0,.int .i64 0] 91))):=Hd ((Yg _ _).alloc (Yh _) _);obtain⟨T,fr,hm⟩:=(hv.below Cd.o).marks;have HM:=Hd hm;clear hm hv;go_in
 go_upto_region 1 with(fail);generalize (w.alloc (.cells #[.int .i64 0,.string ⟨#[]⟩,.int .i64 0,.int .i64 0] 91))=w1 at *;go_wp2_with (refine wpList_load_row rfl _ _ rfl (1:Nat) rfl T _ fr _ HM.o Tryz.underlying192 rfl bL2 ?_);clear HM;have Au:aAl.size=21:=rfl;have Aq:=Hd bWs;generalize aAl=ms at *;go_loop [7] (fun i=>∃k:Nat,k<=21/\i=.int .i64 k/\sE s.data.toList=(iD.drop k).find? fun m=>m.isPrefixOf s.data.toList) (fun i=>21-(intOf i).toNat)
 case atStart=>exact⟨0,by omega,rfl,rfl⟩
 case round=>
  obtain⟨k,hk,rfl,hrel⟩:=hrel;have HR:=Hd hrel;clear hrel;by_cases Ah:k<21
  . obtain⟨m,hm,Ae,Ct⟩:=Aq.o k Ah;have Aa:=Hd Ae;clear Ae;have Bs:=bOq ms k Ah (aZ m) hm;clear hm;have Fs:(aZ m).size=m.length:=aW9 m;by_cases hp:m.isPrefixOf s.data.toList=true
    . have HE:Hid (dT (pM s.data.toList)=.tuple #[iI ⟨5,m,0,0⟩,.int .i64 (m.length:Nat)]):=Hd (by
       rw[pM,HR.o,Aa.o,List.find?_cons_of_pos (by exact hp)];rfl)
      have HC:=Hd (aMm s (aZ m) w1);rw[aBy,hp]at HC;clear hp;go_wp2_with fail;refine HC.o.mono ?_;rintro e w' ⟨rfl,rfl⟩;go_wp2_with (refine Zz rfl _ _ _ rfl w.heap.size _ rfl rfl _ _ Ed.o kZ rfl eC ?_);rw[HE.o];exact Zy (nM (p:=2) (u:=3) rfl _ _ w.heap.size ⟨5,m,0,0⟩ rfl (Ed.o.set ⟨5,m,0,0⟩)) rfl ⟨rfl,Xg Cd.o (Yh _) _⟩
    . have hp:m.isPrefixOf s.data.toList=false:=Bool.eq_false_iff.2 hp;have HE:=Hd (show sE s.data.toList=(iD.drop (k+1)).find? fun m=>m.isPrefixOf s.data.toList by
       rw[HR.o,Aa.o,List.find?_cons_of_neg (by show ¬m.isPrefixOf s.data.toList=true;rw[hp];simp)])
      have HC:=Hd (aMm s (aZ m) w1);rw[aBy,hp]at HC;clear hp;go_wp2_with fail;refine HC.o.mono ?_;rintro e w' ⟨rfl,rfl⟩;go_wp2_with fail;go_round
      case rel=>exact⟨k+1,by omega,by go_num,HE.o⟩
      case measure=>simp[intOf];omega
  . obtain rfl:k=21:=by omega
    have HE:Hid (dT (pM s.data.toList)=.tuple #[iI cI,.int .i64 0]):=Hd (by rw[pM,HR.o];rfl);go_wp2_with (refine Zz rfl _ _ _ rfl w.heap.size _ rfl rfl _ _ Ed.o kZ rfl eC ?_);rw[HE.o];exact Zy (nM (p:=2) (u:=3) rfl _ _ w.heap.size cI rfl (Ed.o.set cI)) rfl ⟨rfl,Xg Cd.o (Yh _) _⟩
theorem aY3{s:BA}(h0:0<s.size):(s.extract 0 1).toList=[s[0]'h0]:=by
 obtain⟨F,hl⟩:=tD h0;rw[Zf,aM9,hl];rfl
theorem bJw(s:BA)(w:World)(hs:s.size<=281474976710656)(hv:iV w)(h0:0<s.size)(h1:jS ((s[0]'h0).toNat:Int)=true):
 Calls Tryz.prog 36 #[.string s] w fun e w'=>e=.returned (dT (gV s.data.toList))/\Below w.heap.size w w':=by
 obtain⟨F,hl⟩:=tD h0;have HT:Hid (gV s.data.toList=iP s.data.toList):=Hd (by rw[hl,rP,if_pos h1]);have Aa:1<=s.size:=h0;have HV:=Hd hv;clear hv hl;rw[HT.o];have HC:Hid (∀w,iV w->Calls Tryz.prog 77 #[.string s] w fun e w'=>e=.returned (dT (iP s.data.toList))/\Below w.heap.size w w'):=Hd (fun w hv=>cAc s w aA);generalize iP s.data.toList=o at HC⊢;clear HT;cases o with
 |none=>
  simp only[dT,iI,dO,cI]at HC⊢;have Ed:Hid (bL 91 (w.alloc (.cells #[.int .i64 0,.string ⟨#[]⟩,.int .i64 0,.int .i64 0] 91)) w.heap.size cI):=Hd (bL.new _ w cI);have Cd:Hid (Below w.heap.size w (w.alloc (.cells #[.int .i64 0,.string ⟨#[]⟩,.int .i64 0,.int .i64 0] 91))):=Hd ((Yg _ _).alloc (Yh _) _);go_in
  go_upto_region 1 with(fail);have Ge:=Hd (HV.o.below Cd.o);generalize (w.alloc (.cells #[.int .i64 0,.string ⟨#[]⟩,.int .i64 0,.int .i64 0] 91))=w1 at *;clear HV;go_wp2_with fail;refine(aBx _ _).mono ?_;rw[h1];rintro e w' ⟨rfl,rfl⟩;go_wp2_with fail;refine(HC.o _ Ge.o).mono ?_;rintro e w2 ⟨rfl,hb⟩;have Dl:=Hd (Ed.o.below hb);have Ai:=Hd (Cd.o.tr hb);clear hb Ge HC;go_wp2_with (refine Zz rfl _ _ _ rfl w.heap.size _ rfl rfl _ _ Dl.o kZ rfl eC ?_);exact bCd
 |some x=>
  obtain⟨t,z⟩:=x;simp only[dT,iI,dO]at HC⊢;have Ed:Hid (bL 91 (w.alloc (.cells #[.int .i64 0,.string ⟨#[]⟩,.int .i64 0,.int .i64 0] 91)) w.heap.size cI):=Hd (bL.new _ w cI);have Cd:Hid (Below w.heap.size w (w.alloc (.cells #[.int .i64 0,.string ⟨#[]⟩,.int .i64 0,.int .i64 0] 91))):=Hd ((Yg _ _).alloc (Yh _) _);go_in
  go_upto_region 1 with(fail);have Ge:=Hd (HV.o.below Cd.o);generalize (w.alloc (.cells #[.int .i64 0,.string ⟨#[]⟩,.int .i64 0,.int .i64 0] 91))=w1 at *;clear HV;go_wp2_with fail;refine(aBx _ _).mono ?_;rw[h1];rintro e w' ⟨rfl,rfl⟩;go_wp2_with fail;refine(HC.o _ Ge.o).mono ?_;rintro e w2 ⟨rfl,hb⟩;have Dl:=Hd (Ed.o.below hb);have Ai:=Hd (Cd.o.tr hb);clear hb Ge HC;go_wp2_with (refine Zz rfl _ _ _ rfl w.heap.size _ rfl rfl _ _ Dl.o kZ rfl eC ?_);exact Zy (nM (p:=2) (u:=3) rfl _ _ w.heap.size t rfl (Dl.o.set t)) rfl ⟨rfl,Xg Ai.o (Yh _) _⟩
theorem bJc(s:BA)(w:World)(hs:s.size<=281474976710656)(hv:iV w)(h0:0<s.size)(h1:jS ((s[0]'h0).toNat:Int)=false)(h2:cC ((s[0]'h0).toNat:Int)=true):
 Calls Tryz.prog 36 #[.string s] w fun e w'=>e=.returned (dT (gV s.data.toList))/\Below w.heap.size w w':=by
 obtain⟨F,hl⟩:=tD h0;have HT:Hid (gV s.data.toList=kD s.data.toList):=Hd (by rw[hl,rP,if_neg (by rw[h1];simp),if_pos h2]);have Aa:1<=s.size:=h0;have HD:Hid (dR s.data.toList≠[]):=Hd (fun e=>by have:=aOm (p:=fun c=>cC (c.toNat:Int)) (l:=F) h2;rw[<-hl]at this;unfold dR at e;rw[e]at this;exact absurd this aC);have HV:=Hd hv;clear hv hl;rw[HT.o];have HC:Hid (∀w,iV w->Calls Tryz.prog 79 #[.string s] w fun e w'=>e=.returned (dT (kD s.data.toList))/\Below w.heap.size w w'):=Hd (fun w hv=>bSw s w hs hv HD.o);generalize kD s.data.toList=o at HC⊢;clear HT HD;cases o with
 |none=>
  exact fK8
 |some x=>
  exact fK7
theorem bJx(s:BA)(w:World)(hs:s.size<=281474976710656)(hv:iV w)(h0:0<s.size)(h1:jS ((s[0]'h0).toNat:Int)=false)(h2:cC ((s[0]'h0).toNat:Int)=false)(h3:s[0]'h0=39):
 Calls Tryz.prog 36 #[.string s] w fun e w'=>e=.returned (dT (gV s.data.toList))/\Below w.heap.size w w':=by
 obtain⟨F,hl⟩:=tD h0;have HT:Hid (gV s.data.toList=nU (s.data.toList.drop 1)):=Hd (by rw[hl,rP,if_neg (by rw[h1];simp),if_neg (by rw[h2];simp),if_pos h3];rfl);have Aa:1<=s.size:=h0;have hq:((s.extract 0 1).toList==[39])=true:=by rw[aY3 h0];simpa using h3
 clear h3;have HV:=Hd hv;clear hv hl;rw[HT.o];have HC:Hid (∀w,iV w->Calls Tryz.prog 80 #[.string s] w fun e w'=>e=.returned (dT (nU (s.data.toList.drop 1)))/\Below w.heap.size w w'):=Hd (fun w hv=>cAd s w hs h0);generalize nU (s.data.toList.drop 1)=o at HC⊢;clear HT;cases o with
 |none=>
  exact fK8
 |some x=>
  exact fK7
theorem bJy(s:BA)(w:World)(hs:s.size<=281474976710656)(hv:iV w)(h0:0<s.size)(h1:jS ((s[0]'h0).toNat:Int)=false)(h2:cC ((s[0]'h0).toNat:Int)=false)(h3:¬s[0]'h0=39):
 Calls Tryz.prog 36 #[.string s] w fun e w'=>e=.returned (dT (gV s.data.toList))/\Below w.heap.size w w':=by
 obtain⟨F,hl⟩:=tD h0;have HT:Hid (gV s.data.toList=pM s.data.toList):=Hd (by rw[hl,rP,if_neg (by rw[h1];simp),if_neg (by rw[h2];simp),if_neg h3]);have Aa:1<=s.size:=h0;have hq:((s.extract 0 1).toList==[39])=false:=by rw[aY3 h0];simpa using h3
 clear h3;have HV:=Hd hv;clear hv hl;rw[HT.o];have HC:Hid (∀w,iV w->Calls Tryz.prog 81 #[.string s] w fun e w'=>e=.returned (dT (pM s.data.toList))/\Below w.heap.size w w'):=Hd (fun w hv=>cAe s w hs hv);generalize pM s.data.toList=o at HC⊢;clear HT;cases o with
 |none=>
  exact fK8
 |some x=>
  exact fK7
theorem bWt(s:BA)(w:World)(hs:s.size<=281474976710656)(hv:iV w)(h0:0<s.size):
 Calls Tryz.prog 36 #[.string s] w fun e w'=>e=.returned (dT (gV s.data.toList))/\Below w.heap.size w w':=by
 cases h1:jS ((s[0]'h0).toNat:Int)with
 |true=>exact bJw s w hs hv h0 h1
 |false=>
  cases h2:cC ((s[0]'h0).toNat:Int)with
  |true=>exact bJc s w hs hv h0 h1 h2
  |false=>
   by_cases h3:s[0]'h0=39;· exact bJx s w hs hv h0 h1 h2 h3
   . exact bJy s w hs hv h0 h1 h2 h3
theorem bSy{l a b:LU}{f:Bool}(hc:(10:UInt8)∉a)(hf:f=false->l=a)(ht:f=true->l=a++10::b):aQd l=a:=by
 have ha:∀c∈a,(fun c:UInt8=>c !=10) c=true:=fun c h=>by
  have:c≠10:=fun e=>hc (e ▸ h)
  simpa using this
 cases f with
 |false=>exact aAv ha (.inl (hf rfl))
 |true=>exact aAv ha (.inr ⟨10,b,ht rfl,by decide⟩)
theorem bOr(c:UInt8):decide (0<=Lib.indexByte [9,10,13,32] c)=aAj c:=by
 by_cases h:0<=Lib.indexByte [9,10,13,32] c
 . rw[Xc h];obtain⟨k,_,h2,_,h4⟩:=aS6 h;have hm:c∈([9,10,13,32]:LU):=by rw[h4];simp
   simp at hm;rcases hm with rfl|rfl|rfl|rfl<;>rfl
 . rw[Xd h];have hn:=aS5 (by omega:Lib.indexByte [9,10,13,32] c<0);simp at hn;simp[aAj,hn]
theorem bL3{s:BA}(h0:0<s.size):s.extract 0 1=⟨#[s[0]'h0]⟩:=by
 obtain⟨F,hl⟩:=tD h0;exact wG (l:=[s[0]'h0]) (by rw[aM9,hl];rfl)
theorem bWu(s:BA)(w:World)(hs:s.size<=281474976710656):
 Calls Tryz.prog 35 #[.string s] w fun e w'=>e=.returned (.int .i64 (dJ s.data.toList:Nat))/\Below w.heap.size w w':=by
 have HC:=Hd (aMm s ⟨#[45,45]⟩);rw[show((⟨#[45,45]⟩:BA).data.toList)=[45,45]from rfl]at HC;cases hp:([45,45]:LU).isPrefixOf s.data.toList with
 |true=>
  have HE:Hid (dJ s.data.toList=(aQd s.data.toList).length):=Hd (by unfold dJ;rw[if_pos hp]);rw[hp]at HC;clear hp;rw[HE.o];go_in
  go_wp2_with fail;refine(HC.o _).mono ?_;rintro e w1 ⟨rfl,rfl⟩;go_wp2_with fail;refine(aIz s 10 _ aA).mono ?_;rintro e w2 ⟨a,b,f,rfl,hb,hc,hf,ht⟩;have hq:=Hd (bSy hc hf ht);have HB:=Hd hb;clear hb hc hf ht;go_wp2_with fail;go_ret;exact⟨iL (by rw[hq.o,Zp]),HB.o⟩
 |false=>
  rw[hp]at HC;by_cases h0:0<s.size
  . have hx:=bL3 h0;obtain⟨F,hl⟩:=tD h0;have HE:Hid (dJ s.data.toList=if aAj (s[0]'h0)=true then 1 else 0):=Hd (by unfold dJ;rw[if_neg (by rw[hp];simp),hl]);have HS:=Hd (cAb ⟨#[9,10,13,32]⟩ (s[0]'h0));rw[show((⟨#[9,10,13,32]⟩:BA).data.toList)=[9,10,13,32]from rfl,bOr]at HS;have Bv:(s.toList==[])=false:=by rw[Zf,hl];rfl
    have Aa:1<=s.size:=h0;clear hp hl;rw[HE.o];cases hb:aAj (s[0]'h0)with
    |true=>
     exact bHx
    |false=>
     exact bHx
  . have hl:s.data.toList=[]:=Zu aKr;have HE:Hid (dJ s.data.toList=0):=Hd (by rw[hl];rfl);have Bv:(s.toList==[])=true:=by rw[Zf,hl];rfl
    clear hp hl;rw[HE.o];go_in
    go_wp2_with fail;refine(HC.o _).mono ?_;rintro e w1 ⟨rfl,rfl⟩;go_wp2_with fail;go_ret;exact⟨rfl,Yg _ _⟩
theorem aNa(s:BA)(p:Nat):(s.extract p s.size).data.toList=s.data.toList.drop p:=by
 exact aPy
def mT(ts:List Tk):List Value:=ts.flatMap fun t=>(dO t).toList
theorem aVf:∀ts:List Tk,(mT ts).length=ts.length*4
 |[]=>rfl
 |t::ts=>by
  have ih:=aVf ts;simp only[mT,List.flatMap_cons,Yo,Yq]at ih⊢;rw[ih];simp[dO];omega
theorem aVg(a b:List Tk):mT (a++b)=mT a++mT b:=by simp[mT]
theorem aMn(t:Tk):mT [t]=(dO t).toList:=by simp[mT]
theorem aXb:∀(ts:List Tk)(i j:Nat),i<ts.length->j<4->(mT ts)[i*4+j]?=(dO (ts[i]?.getD default))[j]?
 |t::ts,0,j,_,hj=>by
  have hz:j<(dO t).toList.length:=by simpa[dO]using hj
  simp only[mT,List.flatMap_cons,Nat.zero_mul,Nat.zero_add];rw[List.getElem?_append_left hz];simp
 |t::ts,i+1,j,hi,hj=>by
  have ih:=aXb ts i j vG hj;have hz:(dO t).toList.length=4:=by simp[dO]
  simp only[mT,List.flatMap_cons];rw[List.getElem?_append_right (by rw[hz];omega),hz,show(i+1)*4+j-4=i*4+j by omega];simpa[mT]using ih
theorem bL4(ts:List Tk):∀u∈mT ts,u.oneCell'=true:=by
 intro u hu;simp only[mT,List.mem_flatMap]at hu;obtain⟨t,_,hu⟩:=hu;simp[dO]at hu;rcases hu with rfl|rfl|rfl|rfl<;>rfl
def eI(w:World)(A:OA)(n:Nat)(ts:List Tk):Prop:=
 ts.length=n/\n<=9223372036854775807/\
 (0<n->∃ b off,A=some ⟨b,off,none⟩/\b<w.heap.size/\∀ i,i<n ->
  w.cell? ⟨b,off+i*4,none⟩=some (.int .i64 (ts[i]?.getD default).k)/\w.cell? ⟨b,off+i*4+1,none⟩=some (.string (aZ (ts[i]?.getD default).s))/\
  w.cell? ⟨b,off+i*4+2,none⟩=some (.int .i64 (ts[i]?.getD default).n)/\w.cell? ⟨b,off+i*4+3,none⟩=some (.int .i64 ((ts[i]?.getD default).a:Int)))
section
variable {w w':World}{A:OA}{n:Nat}{ts:List Tk}
theorem eI.nil_(w:World):eI w none 0 []:=⟨rfl,by omega,by omega⟩
theorem eI.below(h:eI w A n ts)(hb:Below w.heap.size w w'):eI w' A n ts:=
 ⟨h.1,h.2.1,fun hn=>by
  obtain⟨b,off,e,Ah,hc⟩:=h.2.2 hn;refine⟨b,off,e,Yt Ah hb.size,fun i hi=>?_⟩;obtain⟨h0,h1,h2,h3⟩:=hc i hi;exact⟨(hb.cell Ah).trans h0,(hb.cell Ah).trans h1,(hb.cell Ah).trans h2,(hb.cell Ah).trans h3⟩⟩
theorem eI.of_own{base:Nat}{e:TypeId}{v:Value}(h:w.ownsRow base e 4 v n (mT ts))(hm:n<=9223372036854775807):
 ∃A c,v=.slice A n c/\eI w A n ts:=by
 have hl:ts.length=n:=by
  have:=h.1
  rw[aVf]at this;omega
 rcases h.2 with⟨rfl,rfl⟩|⟨g,cap,cur,rfl,hg,hh,hnc,hcm,hcs,ht⟩
 . obtain rfl:ts=[]:=Zu hl;exact⟨none,0,rfl,eI.nil_ _⟩
 . refine⟨_,cap,rfl,hl,hm,fun hn=>⟨g,0,rfl,(Ym.1 hh).1,fun i hi=>?_⟩⟩
   have hc:∀j,j<4->w.cell? ⟨g,0+i*4+j,none⟩=(dO (ts[i]?.getD default))[j]?:=fun j hj=>by
    rw[Nat.zero_add,h.cellAt (i*4+j) aA,aXb ts i j aA hj]
   exact⟨hc 0 aA,hc 1 aA,hc 2 aA,hc 3 aA⟩
theorem bOs{base B:Nat}{e:TypeId}{size:Nat}{v:Value}{xs:LV}(h:w.ownsRow base e size v n xs)(hb:Below B w w')(hB:w.heap.size<=B):w'.ownsRow base e size v n xs:=by
 refine⟨h.1,?_⟩;rcases h.2 with h|⟨g,cap,cur,rfl,hg,hh,hr⟩;· exact .inl h
 . have Ah:=(Ym.1 hh).1;exact .inr ⟨g,cap,cur,rfl,hg,(hb.block g aA).trans hh,hr⟩
end
end
section
open Go.RowKit Go.Sort
def aOr(s:BA)(p q:Nat):Prop:=p<=q/\q<=s.size/\cK p (s.data.toList.drop p)=cK q (s.data.toList.drop q)
section
variable {s:BA}{p q k:Nat}
theorem aOr.start(h:p<=s.size):aOr s p p:=⟨Yh _,h,rfl⟩
end
end
section
open Go.RowKit Go.Sort
section
variable {s:BA}{p k v:Nat}
end
end
section
open Go.RowKit Go.Sort
theorem bJk{P:Program}{a:Act}{w:World}{Q:Exit->Act->World->Prop}{rest:Code}(l:Nat)(J:Act->World->Prop)(μ:Act->World->Nat)(h0:J a w)
 (Aa:∀a w,J a w->rest.wp P (Exit.jump l (fun a' w'=>J a' w'/\μ a' w' < μ a w) Q) a w):(Code.scope ((Code.label l).seq rest)).wp P Q a w:=by
 refine wp_scope_jumps l J μ (rest:=.seq .skip rest) (by simp[findLabel]) (wp_seq (wp_label ?_)) (fun a w h=>wp_seq (wp_skip (Aa a w h)));show rest.wp P (Exit.jump l J Q) a w;refine wp_mono (Aa a w h0) fun e a w h=>?_;cases e with
 |goto l'=>exact⟨h.1,h.2.1⟩
 |normal=>exact h
 |exit id=>exact h
 |ret=>exact h
 |panic ch=>exact h
 |outgrown=>exact h
theorem bWv{l:Nat}{J:Act->World->Prop}{Q:Exit->Act->World->Prop}{a:Act}{w:World}(h:J a w):Exit.jump l J Q (.goto l) a w:=⟨rfl,h⟩
def aAm(s:BA)(e:Ending)(w':World):Prop:=
 (∃p,(cK 0 s.data.toList).2=some p/\e=.returned (.tuple #[.slice none 0 0,.int .i64 (p:Int),.int .i64 2]))\/
 ((cK 0 s.data.toList).2=none/\∃A c,e=.returned (.tuple #[.slice A ((cK 0 s.data.toList).1.length+1) c,.int .i64 (s.size:Int),.int .i64 0])/\eI w' A ((cK 0 s.data.toList).1.length+1) ((cK 0 s.data.toList).1++[⟨6,[],0,s.size⟩]))
theorem aAm.yes{s:BA}{acc:List Tk}{A:OA}{c q:Nat}{w':World}(h:cK 0 s.data.toList=(acc,none))(hq:q=s.size)(hR:eI w' A (acc.length+1) (acc++[⟨6,[],0,q⟩])):
 aAm s (.returned (.tuple #[.slice A (acc.length+1) c,.int .i64 (q:Int),.int .i64 0])) w':=by
 subst hq;refine .inr ?_;rw[h];exact⟨rfl,A,c,rfl,hR⟩
theorem aAm.no{s:BA}{p:Nat}{w':World}(h:(cK 0 s.data.toList).2=some p):aAm s (.returned (.tuple #[.slice none 0 0,.int .i64 (p:Int),.int .i64 2])) w':=.inl ⟨p,h,rfl⟩
theorem cAf:(Tryz.prog.info? 91).map (fun i=>(i.zero,i.size,i.bytes))=some (some (iI cI),4,40):=aE
def jC(T:TypeId)(s:BA)(w:World)(v:Value)(p:Nat)(acc:List Tk)(w':World):Prop:=
 p<=s.size/\acc.length<=p/\w'.ownsRow w.heap.size T 4 v acc.length (mT acc)/\
 cK 0 s.data.toList=(acc++(cK p (s.data.toList.drop p)).1,(cK p (s.data.toList.drop p)).2)/\Below w.heap.size w w'
section
variable {T:TypeId}{s:BA}{w w' w2:World}{v:Value}{p:Nat}{acc:List Tk}
theorem jC.start:jC T s w (.slice none 0 0) 0 [] w:=⟨Ys _,Yh _,World.ownsRow_nil _ _ _ _,by simp,Yg _ _⟩
theorem jC.on(h:jC T s w v p acc w')(hb:Below w'.heap.size w' w2):jC T s w v p acc w2:=
 ⟨h.1,h.2.1,bOs h.2.2.1 hb (Yh _),h.2.2.2.1,h.2.2.2.2.tr hb⟩
theorem jC.len(h:jC T s w v p acc w'):(s.data.toList.drop p).length=s.size-p:=by rw[Zv,Zp]
theorem jC.blank(h:jC T s w v p acc w')(hb:0<dJ (s.data.toList.drop p)):jC T s w v (p+dJ (s.data.toList.drop p)) acc w':=by
 have h1:=bRw (s.data.toList.drop p);have h2:=h.len;refine⟨by have:=h.1;omega,by have:=h.2.1;omega,h.2.2.1,?_,h.2.2.2.2⟩;have h3:=h.2.2.2.1;rw[zO hb,List.drop_drop]at h3;exact h3
theorem jC.bad(h:jC T s w v p acc w')(hp:p<s.size)(hb:dJ (s.data.toList.drop p)=0)(ht:gV (s.data.toList.drop p)=none):(cK 0 s.data.toList).2=some p:=by
 rw[h.2.2.2.1,aIm (fun e=>by have:=h.len;rw[e]at this;simp at this;omega) hb ht]
theorem jC.tok(h:jC T s w v p acc w'){t:Tk}{z:Nat}(hb:dJ (s.data.toList.drop p)=0)(ht:gV (s.data.toList.drop p)=some (t,z)){v':Value}{w2:World}
 (ho:w2.ownsRow w.heap.size T 4 v' (acc.length+1) (mT acc++(dO { t with a:=p }).toList))(hw:Below w.heap.size w w2):jC T s w v' (p+z) (acc++[{ t with a:=p }]) w2:=by
 obtain⟨h1,h2,h3⟩:=xW ht;have h4:=h.len;refine⟨by have:=h.1;omega,by have:=h.2.1;simp;omega,?_,?_,hw⟩
 . rw[aVg,aMn];simpa using ho
 . have h5:=h.2.2.2.1;rw[aB7 hb ht,List.drop_drop]at h5;rw[h5];simp
theorem jC.all(h:jC T s w v s.size acc w'):cK 0 s.data.toList=(acc,none):=by
 have h1:=h.2.2.2.1;have h2:s.data.toList.drop s.size=[]:=List.drop_of_length_le aKr;rw[h2,aB6]at h1;simpa using h1
end
theorem bOt(W:World)(o:Obj)(t:Tk)(T:TypeId):∀j u,(dO t).toList[j]?=some u->((W.alloc o).alloc (.cells (dO t) T)).cell? ((⟨W.heap.size+1,0,none⟩:Addr).add j)=some u:=by
 intro j u hu;have e2:(⟨W.heap.size+1,0,none⟩:Addr).add j=⟨W.heap.size+1,j,none⟩:=aGg
 have:=Zs (w:=W.alloc o) (dO t) T j
 rw[e2];simpa using this.trans (by simpa using hu)
theorem bL5(W:World)(t:Tk)(T:TypeId):∀j u,(dO t).toList[j]?=some u->(W.alloc (.cells (dO t) T)).cell? ((⟨W.heap.size,0,none⟩:Addr).add j)=some u:=by
 intro j u hu;have e2:(⟨W.heap.size,0,none⟩:Addr).add j=⟨W.heap.size,j,none⟩:=aGg
 have:=Zs (w:=W) (dO t) T j
 rw[e2];simpa using this.trans (by simpa using hu)
theorem cCj(s:BA)(Aa:Int)(w:World)(hs:s.size<=1099511627776)(hm:(s.size:Int)<=Aa)(hv:iV w):
 Calls Tryz.prog 14 #[.string s,.int .i64 Aa] w fun e w'=>aAm s e w'/\Below w.heap.size w w':=by
 obtain⟨i0,hi,Cm,Co,Cr⟩:=info_parts cAf;have HV:=Hd hv;have hg:decide (Aa<(s.size:Int))=false:=Xd aA;clear hv;go_in
 go_wp2_with fail;go_step3;go_wp2_with fail;go_step3;go_wp2_with fail;clear hg hm;go_loopw [7,8] (fun v i wr=>∃(p:Nat)(acc:List Tk),i=.int .i64 p/\jC 91 s w v p acc wr) (fun _ i _=>s.size-(intOf i).toNat)
 case atStart=>exact⟨0,[],rfl,jC.start⟩
 case round=>
  obtain⟨p,acc,rfl,hrel⟩:=hrel;have Ng:=Hd hrel;clear hrel;go_wp2_with fail;refine bJk 0 (fun a' w'=>∃(q:Nat)(acc:List Tk)(y4 y5 y6 y7 y9 Jx Nm Od Ns Og Oo Ol Ny On Nq Ob Ni Nl Ot Nz Nw No Np Oh Oa Nn Om Oq Nt Nj Nv Nk Nh Oe Nr Ok Oc Nu Oj Oi Of:Value),a'={ tmps:=List.toArray (.string s::.int .i64 Aa::undef::undef::y4::y5::y6::y7::.int .i64 (q:Int)::y9::Jx::Nm::.string s::.int .i64 (s.size:Int)::.int .i64 Aa::.bool false::undef::Od::Ns::Og::Oo::Ol::Ny::On::Nq::Ob::Ni::Nl::Ot::Nz::Nw::No::Np::Oh::Oa::Nn::Om::Oq::Nt::Nj::Nv::Nk::Nh::Oe::Nr::Ok::Oc::Nu::Oj::Oi::Of::undef::undef::undef::undef::undef::undef::[]),defers:=[] }/\jC 91 s w y7 q acc w'/\s.size-q<=s.size-p) (fun a' _=>s.size-(intOf (a'.tmps.getD 8 undef)).toNat)
   ⟨p,acc,_,_,_,_,_,_,_,_,_,_,_,_,_,_,_,_,_,_,_,_,_,_,_,_,_,_,_,_,_,_,_,_,_,_,_,_,_,_,_,_,_,rfl,Ng.o,Yh _⟩ ?_
  clear Ng;rintro a' wr ⟨q,acc,y4,y5,y6,y7,y9,Jx,Nm,Od,Ns,Og,Oo,Ol,Ny,On,Nq,Ob,Ni,Nl,Ot,Nz,Nw,No,Np,Oh,Oa,Nn,Om,Oq,Nt,Nj,Nv,Nk,Nh,Oe,Nr,Ok,Oc,Nu,Oj,Oi,Of,rfl,hrel,Oy⟩;have HA:=Hd hrel;have hq:=hrel.1;have Ge:=Hd (HV.o.below hrel.2.2.2.2);have Au:(s.extract q s.size).size<=1099511627776:=bFw;have Bs:=Hd (bWu (s.extract q s.size));rw[aNa]at Bs;clear hrel;by_cases hb:0<dJ (s.data.toList.drop q)
  . have Nx:=Hd (HA.o.blank hb);have Ci:=Nx.o.1;generalize dJ (s.data.toList.drop q)=n at *;go_wp2_with fail;refine(Bs.o _ aA).mono ?_;rintro e w2 ⟨rfl,Ag⟩;have Ae:=Hd (Nx.o.on Ag);clear Ag;go_wp2_with fail;rw[<-Int.natCast_add];go_step3;simp only[Exit.inBlock,Exit.then];refine bWv ?_;refine⟨?_,?_⟩
    . refine⟨q+n,acc,?_⟩;refine⟨_,_,_,_,_,_,_,_,_,_,_,_,_,_,_,_,_,_,_,_,_,_,_,_,_,_,_,_,_,_,_,_,_,_,_,_,_,_,_,_,_,rfl,?_,?_⟩;· exact Ae.o
      . omega
    . simp[intOf];omega
  . have Hb:dJ (s.data.toList.drop q)=0:=by omega
    rw[Hb]at Bs;have Cd:=Hd Hb;clear hb Hb;by_cases Gj:q=s.size
    . have Ow:((q:Int)==(s.size:Int))=true:=by simpa using (by omega:(q:Int)=s.size)
      have HE:=Hd (jC.all (Gj ▸ HA.o));have HQ:=Hd Gj;clear Gj;go_wp2_with fail;refine(Bs.o _ aA).mono ?_;rintro e w2 ⟨rfl,Ag⟩;have Ae:=Hd (HA.o.on Ag);have Ad:=Ae.o.2.2.1;have Fs:=Ae.o.2.1;have Ha:=Ae.o.2.2.2.2.size;have Ay:=Hd Ae.o.2.2.2.2;clear Ag;go_wp2_with fail;simp only[Exit.jump,Exit.inBlock];go_wp2_with (at_builtin;go_must (refine wpList_append_own _ rfl _ _ 38 rfl w.heap.size 91 i0 (iI cI) 4 40 Tryz.underlying38 hi Cm Co Cr rfl aF _ _ _ rfl (Ad.alloc _) ⟨w2.heap.size,0,none⟩ 1 1 (dO ⟨6,[],0,q⟩).toList rfl rfl (bL5 _ _ _) bB0 fZ aA cP ?_;intro v' w1 Bb Aw _));rw[Exit.noGoto_ret];have Hc:=(Ay.o.alloc Ha (.cells (dO ⟨6,[],0,q⟩) 91)).grown Aw cP (fun j hj=>(Ad.lt j hj).1);obtain⟨A,c,rfl,hR⟩:=eI.of_own (ts:=acc++[⟨6,[],0,q⟩]) (by rw[aVg,aMn];exact Bb) aA;exact Zy (v:=.tuple #[.slice A (acc.length+1) c,.int .i64 (q:Int),.int .i64 0]) bGh rfl ⟨aAm.yes HE.o HQ.o hR,Hc⟩
    . have Bv:((q:Int)==(s.size:Int))=false:=by simpa using (by omega:¬(q:Int)=s.size)
      have Ah:q<s.size:=aA;have HF:=Hd (fun(w:World)(hv:iV w)=>bWt (s.extract q s.size) w aA hv bFw);rw[aNa]at HF;clear Gj;cases ht:gV (s.data.toList.drop q)with
      |none=>
       rw[ht]at HF;have HE:=Hd (HA.o.bad Ah Cd.o ht);simp only[dT,iI,dO,cI]at HF;go_wp2_with fail;refine(Bs.o _ aA).mono ?_;rintro e w2 ⟨rfl,Ag⟩;have Ae:=Hd (HA.o.on Ag);have Ct:=Hd (Ge.o.below Ag);clear Ag;go_wp2_with fail;refine(HF.o _ Ct.o).mono ?_;rintro e w3 ⟨rfl,Ak⟩;have Aq:=Hd (Ae.o.on Ak);clear Ak Ge Ct;have Ay:=Hd Aq.o.2.2.2.2;go_wp2_with fail;simp only[Exit.jump,Exit.inBlock];go_wp2_with fail;rw[Exit.noGoto_ret];exact Zy (v:=.tuple #[.slice none 0 0,.int .i64 (q:Int),.int .i64 2]) bGh rfl ⟨aAm.no HE.o,Ay.o.alloc Ay.o.size _⟩
      |some x=>
       obtain⟨t,z⟩:=x;rw[ht]at HF;have HT:=Hd ht;clear ht;simp only[dT,iI,dO]at HF;go_wp2_with fail;refine(Bs.o _ aA).mono ?_;rintro e w2 ⟨rfl,Ag⟩;have Ae:=Hd (HA.o.on Ag);have Ct:=Hd (Ge.o.below Ag);clear Ag;go_wp2_with fail;refine(HF.o _ Ct.o).mono ?_;rintro e w3 ⟨rfl,Ak⟩;have Aq:=Hd (Ae.o.on Ak);clear Ak Ge Ct;have Ou:((z:Int)==0)=false:=by have:=(xW HT.o).1;simpa using (by omega:¬(z:Int)=0)
       have Ov:q+z<=s.size:=by have:=(xW HT.o).2.1;rw[Zv,<-Zp]at this;omega
       have Ad:=Aq.o.2.2.1;have Fs:=Aq.o.2.1;have Ha:=Aq.o.2.2.2.2.size;have Ay:=Hd Aq.o.2.2.2.2;go_upto_region 13 with(fail);go_wp2_with (at_builtin;go_must (refine wpList_append_own _ rfl _ _ 38 rfl w.heap.size 91 i0 (iI cI) 4 40 Tryz.underlying38 hi Cm Co Cr rfl aF _ _ _ rfl ((Ad.alloc _).alloc _) ⟨w3.heap.size+1,0,none⟩ 1 1 (dO { t with a:=q }).toList rfl rfl (bOt _ _ _ _) bB0 fZ aA cP ?_;intro v' w1 Bb Aw _));have Hc:=Hd (((Ay.o.alloc Ha (.cells (dO { t with a:=q }) 91)).alloc cP (.cells (dO { t with a:=q }) 91)).grown Aw cP (fun j hj=>(Ad.lt j hj).1));have HN:=Hd (Aq.o.tok Cd.o HT.o Bb Hc.o);have Ox:=(xW HT.o).1;clear Bb Aw Ad;simp only[Exit.jump];go_roundw;case rel=>
        refine⟨_,_,_,_,_,_,_,_,_,_,_,_,_,_,_,_,_,_,_,_,_,_,_,_,_,_,_,_,_,_,_,_,_,_,_,_,_,_,_,_,_,_,?_,rfl⟩;exact⟨q+z,acc++[{ t with a:=q }],by go_num,HN.o⟩
       case measure=>simp[intOf];omega
end
end Go.Proofs.YtagkcjpoipcpkaaGreatDoor
