/-
  Package bound: what its small functions return, for every argument.
  Conditions: none.
-/
import Derived.Test.YtiamhppdacfmmaaProg
import Derived.Test.YtiamhppdacfmmaaQEv2
import Derived.IntWalk

set_option linter.unusedVariables false
set_option linter.unusedSimpArgs false
namespace Go.Proofs.Ytiamhppdacfmmaa
open Go.RowKit Ev
variable {F : Type}

abbrev libB0 : List (Nat × FnSp Empty) := []
abbrev libB1 : List (Nat × FnSp Empty) := []

abbrev libB2 : List (Nat × FnSp Empty) := libB1

abbrev libB3 : List (Nat × FnSp Empty) := libB2

abbrev libB4 : List (Nat × FnSp Empty) := libB3

theorem libB0_ok : LibOk Try.prog noFacts (lib1 libB0) := lib1_nil _ _
theorem libB1_ok : LibOk Try.prog noFacts (lib1 libB1) := (libB0_ok)

theorem libB2_ok : LibOk Try.prog noFacts (lib1 libB2) := (libB1_ok)

theorem libB3_ok : LibOk Try.prog noFacts (lib1 libB3) := (libB2_ok)

theorem libB4_ok : LibOk Try.prog noFacts (lib1 libB4) := (libB3_ok)

end Go.Proofs.Ytiamhppdacfmmaa

