/-
  The contracts of the reference's numbers, seventh part: Less.
  Conditions: those of each theorem.
-/
import Derived.Test.YtokkaeaciigapaaDoorZB
set_option linter.unusedSimpArgs false
namespace Go.Proofs.YtokkaeaciigapaaDoor
open Go.RowKit Go.Shelf Zd Wd

theorem sm_neg {z : Int} (h : Sm z) : Sm (-z) := by unfold Sm at *; rw [Int.natAbs_neg]; exact h

end Go.Proofs.YtokkaeaciigapaaDoor

