/-
  The contract of the reference's Gcd.
  Conditions: those of each theorem.
-/
import Derived.Test.YtfhidjldmopbgaaW2
import Derived.Deep.LoopGhost
set_option linter.unusedSimpArgs false
set_option linter.unusedVariables false
namespace Go.Proofs.Ytfhidjldmopbgaa
open Go.RowKit Go.Shelf Zd Wd

end Go.Proofs.Ytfhidjldmopbgaa

