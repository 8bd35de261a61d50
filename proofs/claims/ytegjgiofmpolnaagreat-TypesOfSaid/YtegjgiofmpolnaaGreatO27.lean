/- Parts of the proof: PiD, PiE, PiG, PiH. Conditions: each theorem's own. -/
import Derived.Laws.EntriesVeiled
import Derived.Test.YtegjgiofmpolnaaGreatO11
import Derived.Test.YtegjgiofmpolnaaGreatO25
import Derived.Test.YtegjgiofmpolnaaGreatO26
namespace Go.Proofs.YtegjgiofmpolnaaGreat
set_option linter.unusedVariables false
set_option linter.unusedSimpArgs false
set_option maxRecDepth 100000
set_option maxHeartbeats 40000000
section
open Go.RowKit Go.Sort
end
section
open Go.RowKit Go.Sort
def Boxes(w:World) (bp bv be:Nat) (E:Option Addr) (ne ec:Nat):Prop:=
 w.cell? ⟨be,0,none⟩=some (.slice E ne ec)∧w.cell? ⟨bv,0,none⟩=some (.func (.func 136) #[] #[.pointer (some ⟨be,0,none⟩)]) ∧
  w.cell? ⟨bp,0,none⟩=some (.func (.func 140) #[] #[.pointer (some ⟨bv,0,none⟩)])
theorem Boxes.below{w w':World}{bp bv be:Nat}{E:Option Addr}{ne ec:Nat}(h:Boxes w bp bv be E ne ec) (hb:Below w.heap.size w w'):Boxes w' bp bv be E ne ec:=
 ⟨(hb.cell (World.block_lt_of_cell? _ _ h.1)).trans h.1,(hb.cell (World.block_lt_of_cell? _ _ h.2.1)).trans h.2.1,(hb.cell (World.block_lt_of_cell? _ _ h.2.2)).trans h.2.2⟩
end
section
open Go.RowKit Go.Sort
end
section
open Go.RowKit Go.Sort
end
end Go.Proofs.YtegjgiofmpolnaaGreat
