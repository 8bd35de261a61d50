/- Parts of the proof: ClC, ClD, ClE, ClF, ClG, ClH. Conditions: each theorem's own. -/
import Derived.Deep.AppendLies
import Derived.Deep.RegionHeld
import Derived.Test.YtkbpdoomhfkngaaO10
import Derived.Test.YtkbpdoomhfkngaaO11
namespace Go.Proofs.Ytkbpdoomhfkngaa
set_option linter.unusedVariables false
set_option linter.unusedSimpArgs false
set_option maxRecDepth 100000
set_option maxHeartbeats 40000000
section
open Go.RowKit Go.Sort Go.BigFrame
theorem rowOf_no{p:Pg}{i:Int}{s:ByteArray}(h:i<0∨(p.ns.length:Int)≤i):rowOf p i s=none:=if_pos h
theorem rowOf_in{p:Pg}{i:Nat}{s:ByteArray}(h:i<p.ns.length):rowOf p i s=rowC p.es (ndAt p i) s:=by
 unfold rowOf;rw [if_neg (by omega)];rfl
end
section
open Go.RowKit Go.Sort Go.BigFrame
theorem RdC.of_ownC{w:World}{base n:Nat}{e:TypeId}{v:Value}{l:List Cd}(h:w.ownsRow base e 2 v n (flC l)) (hm:n≤9223372036854775807):∃ A c,v=.slice A n c∧RdC w A n l∧n≤c:=by
 obtain⟨A,c,e1,h1⟩:=RdC.of_own h hm;refine⟨A,c,e1,h1,?_⟩;rcases h.2 with⟨h2,h3⟩|⟨g,cap,cur,hv,hg,hh,hnc,hr⟩
 · omega
 · rw [e1] at hv;injection hv with _ _ hc;omega
end
section
open Go.RowKit Go.Sort Go.BigFrame
theorem RdT.cellC{w:World}{A:Option Addr}{n k:Nat}{l:List ByteArray}(h:RdT w A n l) (hk:k<n):∃ b off,A=some ⟨b,off,none⟩∧b<w.heap.size∧w.cell? ⟨b,off+k,none⟩=some (.string (l[k]?.getD ByteArray.empty)):=by
 obtain⟨b,off,e,hb,hc⟩:=h.at_ hk;exact⟨b,off,e,hb,hc k hk⟩
end
section
open Go.RowKit Go.Sort Go.BigFrame
theorem mergeC_no{es:List En}{n:Nd}{x:Ex}{fs:List Ft}{on:List Cd}{k:Nat}(hk:k<x.subs.length) (h:armC es x fs on k=false):mergeC es n x fs on=false:=by
 unfold mergeC;rw [rangeC_no hk h,Bool.and_false]
theorem armC_eq(es:List En) (x:Ex) (fs:List Ft) (on:List Cd) (k:Nat):armC es x fs on k=match armR es (x.arms[k]?.getD ByteArray.empty) with
 | none=>false
 | some r=>fitAt fs k (on++[⟨x.s,r.2.2⟩]):=rfl
end
section
open Go.RowKit Go.Sort Go.BigFrame
end
section
open Go.RowKit Go.Sort Go.BigFrame
end
end Go.Proofs.Ytkbpdoomhfkngaa
