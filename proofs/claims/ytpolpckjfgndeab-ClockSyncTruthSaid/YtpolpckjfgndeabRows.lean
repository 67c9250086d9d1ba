/-
  No cell of these rows narrows 'for every input' (looked for: loops, veiled, ifaces, maps, wideKeys, modest, calm, conditions, laid).
  DERIVED. THE GIVEN ROWS OF THIS SEAT. 4 by the template 'for every input the law returns true; each argument reads behind the call as it read before'; 0 by the template 'total and deterministic' (their statements: YtpolpckjfgndeabTotals.lean).
  GIVEN WITH THE SEED: the statements are not yours to turn. If you find one false, say at which input.
  Laid BY PROGRAM, IN A SANDBOX (cutbox-rows.mjs): the forced cells as the released guide's own fill.sh prints them over the translation 1dfae40e02f40888… (all of the seat's roots in one cut). By AI agents, Wed Nov 11 2026. No macro, syntax, notation, axiom, sorry.
-/
import Derived.Test.YtpolpckjfgndeabChecked
import GoSem.Claim
import GoSem.ClaimJoined
import GoSem.ClaimMapViews
import Derived.JoinedTies
import Derived.KernelRfl
namespace Go.Proofs.Ytpolpckjfgndeab
/- THE CELL 'sum', in the pinned program and in every row, IS THE sha256 OF THE DUMP (.gsa) THAT YtpolpckjfgndeabProg.lean LOADS. Nothing in Lean hashes anything: it is a label: what it is worth is what the hold of that sum in a sandbox is worth. -/
noncomputable def Try.pinned : Pinned := { name := "ytpolpckjfgndeab", sum := "1dfae40e02f40888dbba91a1d5585b41f263857f7f622ee5f66e6d99a9ec9848", checked := Try.checked }
namespace Rows
def none {H : Type} : Left H := { results := [], args := [] }

/-- 'spykeep1.ClockShowsTruth': WHATEVER THE INPUT: true; the input reads as it did. -/
def clockShowsTruthSpec : ChangeSpec := { name := "clockShowsTruth", fn := fun _ => fun
  | [d1, d2] => { results := [.lit (.bool true)], args := [d1, d2] }
  | _ => none }
def clockShowsTruthRow : OpenClaim := { program := "ytpolpckjfgndeab", sum := "1dfae40e02f40888dbba91a1d5585b41f263857f7f622ee5f66e6d99a9ec9848", func := "spyglass/spykeep1.ClockShowsTruth", spec := "clockShowsTruth", inPlace := ["math/bits.Add64"], recurses := true, named := ["math/bits.divideError", "math/bits.overflowError"], apart := false }
def ClockShowsTruthSaid : Prop := clockShowsTruthRow.holds Try.pinned (OpenSpec.ofChange clockShowsTruthSpec)

/-- ITS FALSE NEIGHBOUR: 'it returns false'. Refute it at one input. -/
def clockShowsTruthWrong : ChangeSpec := { name := "clockShowsTruth", fn := fun _ => fun
  | [d1, d2] => { results := [.lit (.bool false)], args := [d1, d2] }
  | _ => none }
def ClockShowsTruthWrongFalsely : Prop := clockShowsTruthRow.holds Try.pinned (OpenSpec.ofChange clockShowsTruthWrong)

/-- 'spykeep1.ClockSyncTruth': WHATEVER THE INPUT: true; the input reads as it did. -/
def clockSyncTruthSpec : ChangeSpec := { name := "clockSyncTruth", fn := fun _ => fun
  | [d1, d2] => { results := [.lit (.bool true)], args := [d1, d2] }
  | _ => none }
def clockSyncTruthRow : OpenClaim := { program := "ytpolpckjfgndeab", sum := "1dfae40e02f40888dbba91a1d5585b41f263857f7f622ee5f66e6d99a9ec9848", func := "spyglass/spykeep1.ClockSyncTruth", spec := "clockSyncTruth", inPlace := ["math/bits.Add64"], recurses := true, named := ["math/bits.divideError", "math/bits.overflowError"], apart := false }
def ClockSyncTruthSaid : Prop := clockSyncTruthRow.holds Try.pinned (OpenSpec.ofChange clockSyncTruthSpec)

/-- ITS FALSE NEIGHBOUR: 'it returns false'. Refute it at one input. -/
def clockSyncTruthWrong : ChangeSpec := { name := "clockSyncTruth", fn := fun _ => fun
  | [d1, d2] => { results := [.lit (.bool false)], args := [d1, d2] }
  | _ => none }
def ClockSyncTruthWrongFalsely : Prop := clockSyncTruthRow.holds Try.pinned (OpenSpec.ofChange clockSyncTruthWrong)

/-- 'spykeep1.ClockAgreeTruth': WHATEVER THE INPUT: true; the input reads as it did. -/
def clockAgreeTruthSpec : ChangeSpec := { name := "clockAgreeTruth", fn := fun _ => fun
  | [d1, d2, d3] => { results := [.lit (.bool true)], args := [d1, d2, d3] }
  | _ => none }
def clockAgreeTruthRow : OpenClaim := { program := "ytpolpckjfgndeab", sum := "1dfae40e02f40888dbba91a1d5585b41f263857f7f622ee5f66e6d99a9ec9848", func := "spyglass/spykeep1.ClockAgreeTruth", spec := "clockAgreeTruth", inPlace := ["math/bits.Add64"], unfollowed := true, recurses := true, named := ["math/bits.divideError", "math/bits.overflowError"], apart := false }
def ClockAgreeTruthSaid : Prop := clockAgreeTruthRow.holds Try.pinned (OpenSpec.ofChange clockAgreeTruthSpec)

/-- ITS FALSE NEIGHBOUR: 'it returns false'. Refute it at one input. -/
def clockAgreeTruthWrong : ChangeSpec := { name := "clockAgreeTruth", fn := fun _ => fun
  | [d1, d2, d3] => { results := [.lit (.bool false)], args := [d1, d2, d3] }
  | _ => none }
def ClockAgreeTruthWrongFalsely : Prop := clockAgreeTruthRow.holds Try.pinned (OpenSpec.ofChange clockAgreeTruthWrong)

/-- 'spykeep1.BoundFused': WHATEVER THE INPUT: true; the input reads as it did. -/
def boundFusedSpec : ChangeSpec := { name := "boundFused", fn := fun _ => fun
  | [d1, d2, d3] => { results := [.lit (.bool true)], args := [d1, d2, d3] }
  | _ => none }
def boundFusedRow : OpenClaim := { program := "ytpolpckjfgndeab", sum := "1dfae40e02f40888dbba91a1d5585b41f263857f7f622ee5f66e6d99a9ec9848", func := "spyglass/spykeep1.BoundFused", spec := "boundFused", inPlace := ["math/bits.Add64"], unfollowed := true, recurses := true, named := ["math/bits.divideError", "math/bits.overflowError"], apart := false }
def BoundFusedSaid : Prop := boundFusedRow.holds Try.pinned (OpenSpec.ofChange boundFusedSpec)

/-- ITS FALSE NEIGHBOUR: 'it returns false'. Refute it at one input. -/
def boundFusedWrong : ChangeSpec := { name := "boundFused", fn := fun _ => fun
  | [d1, d2, d3] => { results := [.lit (.bool false)], args := [d1, d2, d3] }
  | _ => none }
def BoundFusedWrongFalsely : Prop := boundFusedRow.holds Try.pinned (OpenSpec.ofChange boundFusedWrong)

/- THE SECOND FORM. 'bulk': how many values and letters a reading holds, each counted each time it is reached (what is shared counts as often as it is met; a slice's spare places count too). A statement '..UptoSaid' is the law's where the arguments, and the package variables that the reading takes, are together of bulk at most 1048576: NARROWER than '..Said'. Prove '..Said' where nothing that the law and all that it calls make is longer than what came in: it says more and counts as full. Else prove '..UptoSaid'. A law counts once. -/
mutual
def uptoBulk {H : Type} : DataW H → Nat
  | .lit (.string bytes) => bytes.length + 1
  | .lit _ => 1
  | .nil => 1
  | .ptr d => uptoBulk d + 1
  | .slice elems spare => uptoBulkAll elems + uptoBulkAll spare + 1
  | .agg parts => uptoBulkAll parts + 1
  | .iface _ d => uptoBulk d + 1
  | .map entries => uptoBulkEntries entries + 1
  | .held _ => 1
def uptoBulkAll {H : Type} : List (DataW H) → Nat
  | [] => 0
  | d :: r => uptoBulk d + uptoBulkAll r
def uptoBulkEntries {H : Type} : List (Lit × DataW H) → Nat
  | [] => 0
  | x :: r => uptoBulkEntry x + uptoBulkEntries r
def uptoBulkEntry {H : Type} : Lit × DataW H → Nat
  | (.string bytes, d) => bytes.length + uptoBulk d + 1
  | (_, d) => uptoBulk d + 1
 end
def uptoSmall : (H : Type) → List (DataW H) → Bool := fun _ ds => decide (uptoBulkAll ds ≤ 1048576)
def OpenSpec.upto (s : _root_.Go.ChangeSpec) : _root_.Go.OpenSpec := { _root_.Go.OpenSpec.ofChange s with cond := some uptoSmall }

/-- 'spykeep1.ClockShowsTruth', WHERE WHAT IT READS IS OF BULK AT MOST 1048576: true; the input reads as it did. -/
def clockShowsTruthUptoRow : OpenClaim := { program := "ytpolpckjfgndeab", sum := "1dfae40e02f40888dbba91a1d5585b41f263857f7f622ee5f66e6d99a9ec9848", func := "spyglass/spykeep1.ClockShowsTruth", spec := "clockShowsTruth", inPlace := ["math/bits.Add64"], recurses := true, named := ["math/bits.divideError", "math/bits.overflowError"], apart := false, narrowed := true }
def ClockShowsTruthUptoSaid : Prop := clockShowsTruthUptoRow.holds Try.pinned (OpenSpec.upto clockShowsTruthSpec)

/-- 'spykeep1.ClockSyncTruth', WHERE WHAT IT READS IS OF BULK AT MOST 1048576: true; the input reads as it did. -/
def clockSyncTruthUptoRow : OpenClaim := { program := "ytpolpckjfgndeab", sum := "1dfae40e02f40888dbba91a1d5585b41f263857f7f622ee5f66e6d99a9ec9848", func := "spyglass/spykeep1.ClockSyncTruth", spec := "clockSyncTruth", inPlace := ["math/bits.Add64"], recurses := true, named := ["math/bits.divideError", "math/bits.overflowError"], apart := false, narrowed := true }
def ClockSyncTruthUptoSaid : Prop := clockSyncTruthUptoRow.holds Try.pinned (OpenSpec.upto clockSyncTruthSpec)

/-- 'spykeep1.ClockAgreeTruth', WHERE WHAT IT READS IS OF BULK AT MOST 1048576: true; the input reads as it did. -/
def clockAgreeTruthUptoRow : OpenClaim := { program := "ytpolpckjfgndeab", sum := "1dfae40e02f40888dbba91a1d5585b41f263857f7f622ee5f66e6d99a9ec9848", func := "spyglass/spykeep1.ClockAgreeTruth", spec := "clockAgreeTruth", inPlace := ["math/bits.Add64"], unfollowed := true, recurses := true, named := ["math/bits.divideError", "math/bits.overflowError"], apart := false, narrowed := true }
def ClockAgreeTruthUptoSaid : Prop := clockAgreeTruthUptoRow.holds Try.pinned (OpenSpec.upto clockAgreeTruthSpec)

/-- 'spykeep1.BoundFused', WHERE WHAT IT READS IS OF BULK AT MOST 1048576: true; the input reads as it did. -/
def boundFusedUptoRow : OpenClaim := { program := "ytpolpckjfgndeab", sum := "1dfae40e02f40888dbba91a1d5585b41f263857f7f622ee5f66e6d99a9ec9848", func := "spyglass/spykeep1.BoundFused", spec := "boundFused", inPlace := ["math/bits.Add64"], unfollowed := true, recurses := true, named := ["math/bits.divideError", "math/bits.overflowError"], apart := false, narrowed := true }
def BoundFusedUptoSaid : Prop := boundFusedUptoRow.holds Try.pinned (OpenSpec.upto boundFusedSpec)

end Rows
end Go.Proofs.Ytpolpckjfgndeab
