/-
  No cell of these rows narrows 'for every input' (looked for: loops, veiled, ifaces, maps, wideKeys, modest, calm, conditions, laid).
  DERIVED. THE GIVEN ROWS OF THIS SEAT. 12 by the template 'for every input the law returns true; each argument reads behind the call as it read before'; 0 by the template 'total and deterministic' (their statements: YtiamhppdacfmmaaTotals.lean).
  GIVEN WITH THE SEED: the statements are not yours to turn. If you find one false, say at which input.
  Laid BY PROGRAM, IN A SANDBOX (cutbox-rows.mjs): the forced cells as the released guide's own fill.sh prints them over the translation 1ed55062ddd725a6… (all of the seat's roots in one cut). By AI agents, Wed Nov 11 2026. No macro, syntax, notation, axiom, sorry.
-/
import Derived.Test.YtiamhppdacfmmaaChecked
import GoSem.Claim
import GoSem.ClaimJoined
import GoSem.ClaimMapViews
import Derived.JoinedTies
import Derived.KernelRfl
namespace Go.Proofs.Ytiamhppdacfmmaa
/- THE CELL 'sum', in the pinned program and in every row, IS THE sha256 OF THE DUMP (.gsa) THAT YtiamhppdacfmmaaProg.lean LOADS. Nothing in Lean hashes anything: it is a label: what it is worth is what the hold of that sum in a sandbox is worth. -/
noncomputable def Try.pinned : Pinned := { name := "ytiamhppdacfmmaa", sum := "1ed55062ddd725a6422e50b6117d07ffaec76dbda084308e221dc038f426b93a", checked := Try.checked }
namespace Rows
def none {H : Type} : Left H := { results := [], args := [] }

/-- 'spylaw2.SlewChecks': WHATEVER THE INPUT: true; the input reads as it did. -/
def slewChecksSpec : ChangeSpec := { name := "slewChecks", fn := fun _ => fun
  | [d1, d2, d3] => { results := [.lit (.bool true)], args := [d1, d2, d3] }
  | _ => none }
def slewChecksRow : OpenClaim := { program := "ytiamhppdacfmmaa", sum := "1ed55062ddd725a6422e50b6117d07ffaec76dbda084308e221dc038f426b93a", func := "spyglass/spylaw2.SlewChecks", spec := "slewChecks", apart := false }
def SlewChecksSaid : Prop := slewChecksRow.holds Try.pinned (OpenSpec.ofChange slewChecksSpec)

/-- ITS FALSE NEIGHBOUR: 'it returns false'. Refute it at one input. -/
def slewChecksWrong : ChangeSpec := { name := "slewChecks", fn := fun _ => fun
  | [d1, d2, d3] => { results := [.lit (.bool false)], args := [d1, d2, d3] }
  | _ => none }
def SlewChecksWrongFalsely : Prop := slewChecksRow.holds Try.pinned (OpenSpec.ofChange slewChecksWrong)

/-- 'spylaw2.SlewTargets': WHATEVER THE INPUT: true; the input reads as it did. -/
def slewTargetsSpec : ChangeSpec := { name := "slewTargets", fn := fun _ => fun
  | [d1, d2, d3] => { results := [.lit (.bool true)], args := [d1, d2, d3] }
  | _ => none }
def slewTargetsRow : OpenClaim := { program := "ytiamhppdacfmmaa", sum := "1ed55062ddd725a6422e50b6117d07ffaec76dbda084308e221dc038f426b93a", func := "spyglass/spylaw2.SlewTargets", spec := "slewTargets", apart := false }
def SlewTargetsSaid : Prop := slewTargetsRow.holds Try.pinned (OpenSpec.ofChange slewTargetsSpec)

/-- ITS FALSE NEIGHBOUR: 'it returns false'. Refute it at one input. -/
def slewTargetsWrong : ChangeSpec := { name := "slewTargets", fn := fun _ => fun
  | [d1, d2, d3] => { results := [.lit (.bool false)], args := [d1, d2, d3] }
  | _ => none }
def SlewTargetsWrongFalsely : Prop := slewTargetsRow.holds Try.pinned (OpenSpec.ofChange slewTargetsWrong)

/-- 'spylaw2.SlewFastest': WHATEVER THE INPUT: true; the input reads as it did. -/
def slewFastestSpec : ChangeSpec := { name := "slewFastest", fn := fun _ => fun
  | [d1, d2] => { results := [.lit (.bool true)], args := [d1, d2] }
  | _ => none }
def slewFastestRow : OpenClaim := { program := "ytiamhppdacfmmaa", sum := "1ed55062ddd725a6422e50b6117d07ffaec76dbda084308e221dc038f426b93a", func := "spyglass/spylaw2.SlewFastest", spec := "slewFastest", apart := false }
def SlewFastestSaid : Prop := slewFastestRow.holds Try.pinned (OpenSpec.ofChange slewFastestSpec)

/-- ITS FALSE NEIGHBOUR: 'it returns false'. Refute it at one input. -/
def slewFastestWrong : ChangeSpec := { name := "slewFastest", fn := fun _ => fun
  | [d1, d2] => { results := [.lit (.bool false)], args := [d1, d2] }
  | _ => none }
def SlewFastestWrongFalsely : Prop := slewFastestRow.holds Try.pinned (OpenSpec.ofChange slewFastestWrong)

/-- 'spylaw2.SlewSteps': WHATEVER THE INPUT: true; the input reads as it did. -/
def slewStepsSpec : ChangeSpec := { name := "slewSteps", fn := fun _ => fun
  | [d1, d2, d3] => { results := [.lit (.bool true)], args := [d1, d2, d3] }
  | _ => none }
def slewStepsRow : OpenClaim := { program := "ytiamhppdacfmmaa", sum := "1ed55062ddd725a6422e50b6117d07ffaec76dbda084308e221dc038f426b93a", func := "spyglass/spylaw2.SlewSteps", spec := "slewSteps", apart := false }
def SlewStepsSaid : Prop := slewStepsRow.holds Try.pinned (OpenSpec.ofChange slewStepsSpec)

/-- ITS FALSE NEIGHBOUR: 'it returns false'. Refute it at one input. -/
def slewStepsWrong : ChangeSpec := { name := "slewSteps", fn := fun _ => fun
  | [d1, d2, d3] => { results := [.lit (.bool false)], args := [d1, d2, d3] }
  | _ => none }
def SlewStepsWrongFalsely : Prop := slewStepsRow.holds Try.pinned (OpenSpec.ofChange slewStepsWrong)

/-- 'spylaw2.SlewPoses': WHATEVER THE INPUT: true; the input reads as it did. -/
def slewPosesSpec : ChangeSpec := { name := "slewPoses", fn := fun _ => fun
  | [d1, d2, d3] => { results := [.lit (.bool true)], args := [d1, d2, d3] }
  | _ => none }
def slewPosesRow : OpenClaim := { program := "ytiamhppdacfmmaa", sum := "1ed55062ddd725a6422e50b6117d07ffaec76dbda084308e221dc038f426b93a", func := "spyglass/spylaw2.SlewPoses", spec := "slewPoses", apart := false }
def SlewPosesSaid : Prop := slewPosesRow.holds Try.pinned (OpenSpec.ofChange slewPosesSpec)

/-- ITS FALSE NEIGHBOUR: 'it returns false'. Refute it at one input. -/
def slewPosesWrong : ChangeSpec := { name := "slewPoses", fn := fun _ => fun
  | [d1, d2, d3] => { results := [.lit (.bool false)], args := [d1, d2, d3] }
  | _ => none }
def SlewPosesWrongFalsely : Prop := slewPosesRow.holds Try.pinned (OpenSpec.ofChange slewPosesWrong)

/-- 'spylaw2.SlewSlots': WHATEVER THE INPUT: true; the input reads as it did. -/
def slewSlotsSpec : ChangeSpec := { name := "slewSlots", fn := fun _ => fun
  | [d1, d2] => { results := [.lit (.bool true)], args := [d1, d2] }
  | _ => none }
def slewSlotsRow : OpenClaim := { program := "ytiamhppdacfmmaa", sum := "1ed55062ddd725a6422e50b6117d07ffaec76dbda084308e221dc038f426b93a", func := "spyglass/spylaw2.SlewSlots", spec := "slewSlots", apart := false }
def SlewSlotsSaid : Prop := slewSlotsRow.holds Try.pinned (OpenSpec.ofChange slewSlotsSpec)

/-- ITS FALSE NEIGHBOUR: 'it returns false'. Refute it at one input. -/
def slewSlotsWrong : ChangeSpec := { name := "slewSlots", fn := fun _ => fun
  | [d1, d2] => { results := [.lit (.bool false)], args := [d1, d2] }
  | _ => none }
def SlewSlotsWrongFalsely : Prop := slewSlotsRow.holds Try.pinned (OpenSpec.ofChange slewSlotsWrong)

/-- 'spylaw2.SlewAims': WHATEVER THE INPUT: true; the input reads as it did. -/
def slewAimsSpec : ChangeSpec := { name := "slewAims", fn := fun _ => fun
  | [d1, d2, d3] => { results := [.lit (.bool true)], args := [d1, d2, d3] }
  | _ => none }
def slewAimsRow : OpenClaim := { program := "ytiamhppdacfmmaa", sum := "1ed55062ddd725a6422e50b6117d07ffaec76dbda084308e221dc038f426b93a", func := "spyglass/spylaw2.SlewAims", spec := "slewAims", recurses := true, named := ["math/bits.divideError", "math/bits.overflowError"], apart := false }
def SlewAimsSaid : Prop := slewAimsRow.holds Try.pinned (OpenSpec.ofChange slewAimsSpec)

/-- ITS FALSE NEIGHBOUR: 'it returns false'. Refute it at one input. -/
def slewAimsWrong : ChangeSpec := { name := "slewAims", fn := fun _ => fun
  | [d1, d2, d3] => { results := [.lit (.bool false)], args := [d1, d2, d3] }
  | _ => none }
def SlewAimsWrongFalsely : Prop := slewAimsRow.holds Try.pinned (OpenSpec.ofChange slewAimsWrong)

/-- 'spylaw2.SlewTracks': WHATEVER THE INPUT: true; the input reads as it did. -/
def slewTracksSpec : ChangeSpec := { name := "slewTracks", fn := fun _ => fun
  | [d1, d2, d3, d4, d5, d6] => { results := [.lit (.bool true)], args := [d1, d2, d3, d4, d5, d6] }
  | _ => none }
def slewTracksRow : OpenClaim := { program := "ytiamhppdacfmmaa", sum := "1ed55062ddd725a6422e50b6117d07ffaec76dbda084308e221dc038f426b93a", func := "spyglass/spylaw2.SlewTracks", spec := "slewTracks", recurses := true, named := ["math/bits.divideError", "math/bits.overflowError"], apart := false }
def SlewTracksSaid : Prop := slewTracksRow.holds Try.pinned (OpenSpec.ofChange slewTracksSpec)

/-- ITS FALSE NEIGHBOUR: 'it returns false'. Refute it at one input. -/
def slewTracksWrong : ChangeSpec := { name := "slewTracks", fn := fun _ => fun
  | [d1, d2, d3, d4, d5, d6] => { results := [.lit (.bool false)], args := [d1, d2, d3, d4, d5, d6] }
  | _ => none }
def SlewTracksWrongFalsely : Prop := slewTracksRow.holds Try.pinned (OpenSpec.ofChange slewTracksWrong)

/-- 'spykeep2.SlewNearest': WHATEVER THE INPUT: true; the input reads as it did. -/
def slewNearestSpec : ChangeSpec := { name := "slewNearest", fn := fun _ => fun
  | [d1, d2] => { results := [.lit (.bool true)], args := [d1, d2] }
  | _ => none }
def slewNearestRow : OpenClaim := { program := "ytiamhppdacfmmaa", sum := "1ed55062ddd725a6422e50b6117d07ffaec76dbda084308e221dc038f426b93a", func := "spyglass/spykeep2.SlewNearest", spec := "slewNearest", unfollowed := true, recurses := true, apart := false }
def SlewNearestSaid : Prop := slewNearestRow.holds Try.pinned (OpenSpec.ofChange slewNearestSpec)

/-- ITS FALSE NEIGHBOUR: 'it returns false'. Refute it at one input. -/
def slewNearestWrong : ChangeSpec := { name := "slewNearest", fn := fun _ => fun
  | [d1, d2] => { results := [.lit (.bool false)], args := [d1, d2] }
  | _ => none }
def SlewNearestWrongFalsely : Prop := slewNearestRow.holds Try.pinned (OpenSpec.ofChange slewNearestWrong)

/-- 'spykeep2.SlewBrakes': WHATEVER THE INPUT: true; the input reads as it did. -/
def slewBrakesSpec : ChangeSpec := { name := "slewBrakes", fn := fun _ => fun
  | [d1, d2] => { results := [.lit (.bool true)], args := [d1, d2] }
  | _ => none }
def slewBrakesRow : OpenClaim := { program := "ytiamhppdacfmmaa", sum := "1ed55062ddd725a6422e50b6117d07ffaec76dbda084308e221dc038f426b93a", func := "spyglass/spykeep2.SlewBrakes", spec := "slewBrakes", apart := false }
def SlewBrakesSaid : Prop := slewBrakesRow.holds Try.pinned (OpenSpec.ofChange slewBrakesSpec)

/-- ITS FALSE NEIGHBOUR: 'it returns false'. Refute it at one input. -/
def slewBrakesWrong : ChangeSpec := { name := "slewBrakes", fn := fun _ => fun
  | [d1, d2] => { results := [.lit (.bool false)], args := [d1, d2] }
  | _ => none }
def SlewBrakesWrongFalsely : Prop := slewBrakesRow.holds Try.pinned (OpenSpec.ofChange slewBrakesWrong)

/-- 'spykeep2.SlewTimes': WHATEVER THE INPUT: true; the input reads as it did. -/
def slewTimesSpec : ChangeSpec := { name := "slewTimes", fn := fun _ => fun
  | [d] => { results := [.lit (.bool true)], args := [d] }
  | _ => none }
def slewTimesRow : OpenClaim := { program := "ytiamhppdacfmmaa", sum := "1ed55062ddd725a6422e50b6117d07ffaec76dbda084308e221dc038f426b93a", func := "spyglass/spykeep2.SlewTimes", spec := "slewTimes", apart := false }
def SlewTimesSaid : Prop := slewTimesRow.holds Try.pinned (OpenSpec.ofChange slewTimesSpec)

/-- ITS FALSE NEIGHBOUR: 'it returns false'. Refute it at one input. -/
def slewTimesWrong : ChangeSpec := { name := "slewTimes", fn := fun _ => fun
  | [d] => { results := [.lit (.bool false)], args := [d] }
  | _ => none }
def SlewTimesWrongFalsely : Prop := slewTimesRow.holds Try.pinned (OpenSpec.ofChange slewTimesWrong)

/-- 'spykeep2.SlewTogether': WHATEVER THE INPUT: true; the input reads as it did. -/
def slewTogetherSpec : ChangeSpec := { name := "slewTogether", fn := fun _ => fun
  | [d1, d2, d3] => { results := [.lit (.bool true)], args := [d1, d2, d3] }
  | _ => none }
def slewTogetherRow : OpenClaim := { program := "ytiamhppdacfmmaa", sum := "1ed55062ddd725a6422e50b6117d07ffaec76dbda084308e221dc038f426b93a", func := "spyglass/spykeep2.SlewTogether", spec := "slewTogether", apart := false }
def SlewTogetherSaid : Prop := slewTogetherRow.holds Try.pinned (OpenSpec.ofChange slewTogetherSpec)

/-- ITS FALSE NEIGHBOUR: 'it returns false'. Refute it at one input. -/
def slewTogetherWrong : ChangeSpec := { name := "slewTogether", fn := fun _ => fun
  | [d1, d2, d3] => { results := [.lit (.bool false)], args := [d1, d2, d3] }
  | _ => none }
def SlewTogetherWrongFalsely : Prop := slewTogetherRow.holds Try.pinned (OpenSpec.ofChange slewTogetherWrong)

/- THE SECOND FORM. 'bulk': how many values and letters a reading holds, each counted each time it is reached (what is shared counts as often as it is met; a slice's spare places count too). A statement '..UptoSaid' is the law's where the arguments, and the package variables that the reading takes, are together of bulk at most 1048576: NARROWER than '..Said'. Prove '..Said' where nothing that the law and all that it calls make is longer than what came in: it says more and counts as full. Else prove '..UptoSaid'. A law counts once. -/
mutual
def uptoBulk {H : Type} : DataW H → Nat
  | .lit (.string bytes) => bytes.length + 1
  | .lit _ => 1
  | .nil => 1
  | .ptr d => uptoBulk d + 1
  | .slice elems spare => uptoBulkAll elems + uptoBulkAll spare + 1
  | .agg parts => uptoBulkAll parts + 1
  | .iface _ d => uptoBulk d + 1
  | .map entries => uptoBulkEntries entries + 1
  | .held _ => 1
def uptoBulkAll {H : Type} : List (DataW H) → Nat
  | [] => 0
  | d :: r => uptoBulk d + uptoBulkAll r
def uptoBulkEntries {H : Type} : List (Lit × DataW H) → Nat
  | [] => 0
  | x :: r => uptoBulkEntry x + uptoBulkEntries r
def uptoBulkEntry {H : Type} : Lit × DataW H → Nat
  | (.string bytes, d) => bytes.length + uptoBulk d + 1
  | (_, d) => uptoBulk d + 1
 end
def uptoSmall : (H : Type) → List (DataW H) → Bool := fun _ ds => decide (uptoBulkAll ds ≤ 1048576)
def OpenSpec.upto (s : _root_.Go.ChangeSpec) : _root_.Go.OpenSpec := { _root_.Go.OpenSpec.ofChange s with cond := some uptoSmall }

/-- 'spylaw2.SlewChecks', WHERE WHAT IT READS IS OF BULK AT MOST 1048576: true; the input reads as it did. -/
def slewChecksUptoRow : OpenClaim := { program := "ytiamhppdacfmmaa", sum := "1ed55062ddd725a6422e50b6117d07ffaec76dbda084308e221dc038f426b93a", func := "spyglass/spylaw2.SlewChecks", spec := "slewChecks", apart := false, narrowed := true }
def SlewChecksUptoSaid : Prop := slewChecksUptoRow.holds Try.pinned (OpenSpec.upto slewChecksSpec)

/-- 'spylaw2.SlewTargets', WHERE WHAT IT READS IS OF BULK AT MOST 1048576: true; the input reads as it did. -/
def slewTargetsUptoRow : OpenClaim := { program := "ytiamhppdacfmmaa", sum := "1ed55062ddd725a6422e50b6117d07ffaec76dbda084308e221dc038f426b93a", func := "spyglass/spylaw2.SlewTargets", spec := "slewTargets", apart := false, narrowed := true }
def SlewTargetsUptoSaid : Prop := slewTargetsUptoRow.holds Try.pinned (OpenSpec.upto slewTargetsSpec)

/-- 'spylaw2.SlewFastest', WHERE WHAT IT READS IS OF BULK AT MOST 1048576: true; the input reads as it did. -/
def slewFastestUptoRow : OpenClaim := { program := "ytiamhppdacfmmaa", sum := "1ed55062ddd725a6422e50b6117d07ffaec76dbda084308e221dc038f426b93a", func := "spyglass/spylaw2.SlewFastest", spec := "slewFastest", apart := false, narrowed := true }
def SlewFastestUptoSaid : Prop := slewFastestUptoRow.holds Try.pinned (OpenSpec.upto slewFastestSpec)

/-- 'spylaw2.SlewSteps', WHERE WHAT IT READS IS OF BULK AT MOST 1048576: true; the input reads as it did. -/
def slewStepsUptoRow : OpenClaim := { program := "ytiamhppdacfmmaa", sum := "1ed55062ddd725a6422e50b6117d07ffaec76dbda084308e221dc038f426b93a", func := "spyglass/spylaw2.SlewSteps", spec := "slewSteps", apart := false, narrowed := true }
def SlewStepsUptoSaid : Prop := slewStepsUptoRow.holds Try.pinned (OpenSpec.upto slewStepsSpec)

/-- 'spylaw2.SlewPoses', WHERE WHAT IT READS IS OF BULK AT MOST 1048576: true; the input reads as it did. -/
def slewPosesUptoRow : OpenClaim := { program := "ytiamhppdacfmmaa", sum := "1ed55062ddd725a6422e50b6117d07ffaec76dbda084308e221dc038f426b93a", func := "spyglass/spylaw2.SlewPoses", spec := "slewPoses", apart := false, narrowed := true }
def SlewPosesUptoSaid : Prop := slewPosesUptoRow.holds Try.pinned (OpenSpec.upto slewPosesSpec)

/-- 'spylaw2.SlewSlots', WHERE WHAT IT READS IS OF BULK AT MOST 1048576: true; the input reads as it did. -/
def slewSlotsUptoRow : OpenClaim := { program := "ytiamhppdacfmmaa", sum := "1ed55062ddd725a6422e50b6117d07ffaec76dbda084308e221dc038f426b93a", func := "spyglass/spylaw2.SlewSlots", spec := "slewSlots", apart := false, narrowed := true }
def SlewSlotsUptoSaid : Prop := slewSlotsUptoRow.holds Try.pinned (OpenSpec.upto slewSlotsSpec)

/-- 'spylaw2.SlewAims', WHERE WHAT IT READS IS OF BULK AT MOST 1048576: true; the input reads as it did. -/
def slewAimsUptoRow : OpenClaim := { program := "ytiamhppdacfmmaa", sum := "1ed55062ddd725a6422e50b6117d07ffaec76dbda084308e221dc038f426b93a", func := "spyglass/spylaw2.SlewAims", spec := "slewAims", recurses := true, named := ["math/bits.divideError", "math/bits.overflowError"], apart := false, narrowed := true }
def SlewAimsUptoSaid : Prop := slewAimsUptoRow.holds Try.pinned (OpenSpec.upto slewAimsSpec)

/-- 'spylaw2.SlewTracks', WHERE WHAT IT READS IS OF BULK AT MOST 1048576: true; the input reads as it did. -/
def slewTracksUptoRow : OpenClaim := { program := "ytiamhppdacfmmaa", sum := "1ed55062ddd725a6422e50b6117d07ffaec76dbda084308e221dc038f426b93a", func := "spyglass/spylaw2.SlewTracks", spec := "slewTracks", recurses := true, named := ["math/bits.divideError", "math/bits.overflowError"], apart := false, narrowed := true }
def SlewTracksUptoSaid : Prop := slewTracksUptoRow.holds Try.pinned (OpenSpec.upto slewTracksSpec)

/-- 'spykeep2.SlewNearest', WHERE WHAT IT READS IS OF BULK AT MOST 1048576: true; the input reads as it did. -/
def slewNearestUptoRow : OpenClaim := { program := "ytiamhppdacfmmaa", sum := "1ed55062ddd725a6422e50b6117d07ffaec76dbda084308e221dc038f426b93a", func := "spyglass/spykeep2.SlewNearest", spec := "slewNearest", unfollowed := true, recurses := true, apart := false, narrowed := true }
def SlewNearestUptoSaid : Prop := slewNearestUptoRow.holds Try.pinned (OpenSpec.upto slewNearestSpec)

/-- 'spykeep2.SlewBrakes', WHERE WHAT IT READS IS OF BULK AT MOST 1048576: true; the input reads as it did. -/
def slewBrakesUptoRow : OpenClaim := { program := "ytiamhppdacfmmaa", sum := "1ed55062ddd725a6422e50b6117d07ffaec76dbda084308e221dc038f426b93a", func := "spyglass/spykeep2.SlewBrakes", spec := "slewBrakes", apart := false, narrowed := true }
def SlewBrakesUptoSaid : Prop := slewBrakesUptoRow.holds Try.pinned (OpenSpec.upto slewBrakesSpec)

/-- 'spykeep2.SlewTimes', WHERE WHAT IT READS IS OF BULK AT MOST 1048576: true; the input reads as it did. -/
def slewTimesUptoRow : OpenClaim := { program := "ytiamhppdacfmmaa", sum := "1ed55062ddd725a6422e50b6117d07ffaec76dbda084308e221dc038f426b93a", func := "spyglass/spykeep2.SlewTimes", spec := "slewTimes", apart := false, narrowed := true }
def SlewTimesUptoSaid : Prop := slewTimesUptoRow.holds Try.pinned (OpenSpec.upto slewTimesSpec)

/-- 'spykeep2.SlewTogether', WHERE WHAT IT READS IS OF BULK AT MOST 1048576: true; the input reads as it did. -/
def slewTogetherUptoRow : OpenClaim := { program := "ytiamhppdacfmmaa", sum := "1ed55062ddd725a6422e50b6117d07ffaec76dbda084308e221dc038f426b93a", func := "spyglass/spykeep2.SlewTogether", spec := "slewTogether", apart := false, narrowed := true }
def SlewTogetherUptoSaid : Prop := slewTogetherUptoRow.holds Try.pinned (OpenSpec.upto slewTogetherSpec)

end Rows
end Go.Proofs.Ytiamhppdacfmmaa
