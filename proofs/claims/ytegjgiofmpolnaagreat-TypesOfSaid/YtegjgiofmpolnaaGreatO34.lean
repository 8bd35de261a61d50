/- Parts of the proof: ArZ. Conditions: each theorem's own. -/
import Derived.Test.YtegjgiofmpolnaaGreatO17
import Derived.Test.YtegjgiofmpolnaaGreatO33
namespace Go.Proofs.YtegjgiofmpolnaaGreat
set_option linter.unusedVariables false
set_option linter.unusedSimpArgs false
set_option maxRecDepth 100000
set_option maxHeartbeats 40000000
section
open Go.RowKit Go.Sort
theorem arBinTy(op k e l k' e' l':Int) (w:World):
 Calls Tryz.prog 117 #[.int .i64 op,tyV k e l,tyV k' e' l'] w fun r w' =>
  r=.returned (.tuple #[tyR (binTyI op (isP 1 k e l && isP 1 k' e' l') (isP 2 k e l && isP 2 k' e' l') (sameB k e l k' e' l')),.bool (binTyI op (isP 1 k e l && isP 1 k' e' l') (isP 2 k e l && isP 2 k' e' l') (sameB k e l k' e' l')).isSome])∧Below w.heap.size w w':=by
 cases hS:sameB k e l k' e' l' with
 | false=>
  have:=arBinTy_diff op k e l k' e' l' hS w;rwa [hS] at this
 | true=>
  rcases same_cases k e l k' e' l' with⟨rfl,rfl,rfl,rfl,_⟩|⟨_,h⟩|⟨_,_,h⟩|⟨_,_,_,h⟩|⟨_,_,_,_,h⟩
  · have:=arBinTy_all op k e w
    simpa using this
  all_goals (rw [hS] at h;cases h)
end
end Go.Proofs.YtegjgiofmpolnaaGreat
