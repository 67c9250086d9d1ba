/-
  No cell of these rows narrows 'for every input' (looked for: loops, veiled, ifaces, maps, wideKeys, modest, calm, conditions, laid).
  DERIVED. THE GIVEN ROWS OF THIS SEAT. 16 by the template 'for every input the law returns true; each argument reads behind the call as it read before'; 0 by the template 'total and deterministic' (their statements: YtalonppmoimmjaaTotals.lean).
  GIVEN WITH THE SEED: the statements are not yours to turn. If you find one false, say at which input.
  Laid BY PROGRAM, IN A SANDBOX (cutbox-rows.mjs): the forced cells as the released guide's own fill.sh prints them over the translation 9cc2a1548d948a48… (all of the seat's roots in one cut). By AI agents, Wed Nov 11 2026. No macro, syntax, notation, axiom, sorry.
-/
import Derived.Test.YtalonppmoimmjaaChecked
import GoSem.Claim
import GoSem.ClaimJoined
import GoSem.ClaimMapViews
import Derived.JoinedTies
import Derived.KernelRfl
namespace Go.Proofs.Ytalonppmoimmjaa
/- THE CELL 'sum', in the pinned program and in every row, IS THE sha256 OF THE DUMP (.gsa) THAT YtalonppmoimmjaaProg.lean LOADS. Nothing in Lean hashes anything: it is a label: what it is worth is what the hold of that sum in a sandbox is worth. -/
noncomputable def Try.pinned : Pinned := { name := "ytalonppmoimmjaa", sum := "9cc2a1548d948a48afed1a9e5346ecfa106287846fd099f377fc82588153895b", checked := Try.checked }
namespace Rows
def none {H : Type} : Left H := { results := [], args := [] }

/-- 'spylaw1.Names': WHATEVER THE INPUT: true; the input reads as it did. -/
def namesSpec : ChangeSpec := { name := "names", fn := fun _ => fun
  | [] => { results := [.lit (.bool true)], args := [] }
  | _ => none }
def namesRow : OpenClaim := { program := "ytalonppmoimmjaa", sum := "9cc2a1548d948a48afed1a9e5346ecfa106287846fd099f377fc82588153895b", func := "spyglass/spylaw1.Names", spec := "names", recurses := true, named := ["math/bits.divideError", "math/bits.overflowError"], apart := false }
def NamesSaid : Prop := namesRow.holds Try.pinned (OpenSpec.ofChange namesSpec)

/-- ITS FALSE NEIGHBOUR: 'it returns false'. Refute it at one input. -/
def namesWrong : ChangeSpec := { name := "names", fn := fun _ => fun
  | [] => { results := [.lit (.bool false)], args := [] }
  | _ => none }
def NamesWrongFalsely : Prop := namesRow.holds Try.pinned (OpenSpec.ofChange namesWrong)

/-- 'spylaw1.NumSums': WHATEVER THE INPUT: true; the input reads as it did. -/
def numSumsSpec : ChangeSpec := { name := "numSums", fn := fun _ => fun
  | [d1, d2] => { results := [.lit (.bool true)], args := [d1, d2] }
  | _ => none }
def numSumsRow : OpenClaim := { program := "ytalonppmoimmjaa", sum := "9cc2a1548d948a48afed1a9e5346ecfa106287846fd099f377fc82588153895b", func := "spyglass/spylaw1.NumSums", spec := "numSums", unfollowed := true, recurses := true, named := ["math/bits.divideError", "math/bits.overflowError"], apart := false }
def NumSumsSaid : Prop := numSumsRow.holds Try.pinned (OpenSpec.ofChange numSumsSpec)

/-- ITS FALSE NEIGHBOUR: 'it returns false'. Refute it at one input. -/
def numSumsWrong : ChangeSpec := { name := "numSums", fn := fun _ => fun
  | [d1, d2] => { results := [.lit (.bool false)], args := [d1, d2] }
  | _ => none }
def NumSumsWrongFalsely : Prop := numSumsRow.holds Try.pinned (OpenSpec.ofChange numSumsWrong)

/-- 'spylaw1.NumQuotients': WHATEVER THE INPUT: true; the input reads as it did. -/
def numQuotientsSpec : ChangeSpec := { name := "numQuotients", fn := fun _ => fun
  | [d1, d2] => { results := [.lit (.bool true)], args := [d1, d2] }
  | _ => none }
def numQuotientsRow : OpenClaim := { program := "ytalonppmoimmjaa", sum := "9cc2a1548d948a48afed1a9e5346ecfa106287846fd099f377fc82588153895b", func := "spyglass/spylaw1.NumQuotients", spec := "numQuotients", unfollowed := true, recurses := true, named := ["math/bits.divideError", "math/bits.overflowError"], apart := false }
def NumQuotientsSaid : Prop := numQuotientsRow.holds Try.pinned (OpenSpec.ofChange numQuotientsSpec)

/-- ITS FALSE NEIGHBOUR: 'it returns false'. Refute it at one input. -/
def numQuotientsWrong : ChangeSpec := { name := "numQuotients", fn := fun _ => fun
  | [d1, d2] => { results := [.lit (.bool false)], args := [d1, d2] }
  | _ => none }
def NumQuotientsWrongFalsely : Prop := numQuotientsRow.holds Try.pinned (OpenSpec.ofChange numQuotientsWrong)

/-- 'spylaw1.NumMulDivs': WHATEVER THE INPUT: true; the input reads as it did. -/
def numMulDivsSpec : ChangeSpec := { name := "numMulDivs", fn := fun _ => fun
  | [d1, d2, d3] => { results := [.lit (.bool true)], args := [d1, d2, d3] }
  | _ => none }
def numMulDivsRow : OpenClaim := { program := "ytalonppmoimmjaa", sum := "9cc2a1548d948a48afed1a9e5346ecfa106287846fd099f377fc82588153895b", func := "spyglass/spylaw1.NumMulDivs", spec := "numMulDivs", inPlace := ["math/bits.Add64"], recurses := true, named := ["math/bits.divideError", "math/bits.overflowError"], apart := false }
def NumMulDivsSaid : Prop := numMulDivsRow.holds Try.pinned (OpenSpec.ofChange numMulDivsSpec)

/-- ITS FALSE NEIGHBOUR: 'it returns false'. Refute it at one input. -/
def numMulDivsWrong : ChangeSpec := { name := "numMulDivs", fn := fun _ => fun
  | [d1, d2, d3] => { results := [.lit (.bool false)], args := [d1, d2, d3] }
  | _ => none }
def NumMulDivsWrongFalsely : Prop := numMulDivsRow.holds Try.pinned (OpenSpec.ofChange numMulDivsWrong)

/-- 'spylaw1.NumRoots': WHATEVER THE INPUT: true; the input reads as it did. -/
def numRootsSpec : ChangeSpec := { name := "numRoots", fn := fun _ => fun
  | [d1, d2] => { results := [.lit (.bool true)], args := [d1, d2] }
  | _ => none }
def numRootsRow : OpenClaim := { program := "ytalonppmoimmjaa", sum := "9cc2a1548d948a48afed1a9e5346ecfa106287846fd099f377fc82588153895b", func := "spyglass/spylaw1.NumRoots", spec := "numRoots", recurses := true, named := ["math/bits.divideError", "math/bits.overflowError"], apart := false }
def NumRootsSaid : Prop := numRootsRow.holds Try.pinned (OpenSpec.ofChange numRootsSpec)

/-- ITS FALSE NEIGHBOUR: 'it returns false'. Refute it at one input. -/
def numRootsWrong : ChangeSpec := { name := "numRoots", fn := fun _ => fun
  | [d1, d2] => { results := [.lit (.bool false)], args := [d1, d2] }
  | _ => none }
def NumRootsWrongFalsely : Prop := numRootsRow.holds Try.pinned (OpenSpec.ofChange numRootsWrong)

/-- 'spylaw1.NumWides': WHATEVER THE INPUT: true; the input reads as it did. -/
def numWidesSpec : ChangeSpec := { name := "numWides", fn := fun _ => fun
  | [d1, d2, d3, d4] => { results := [.lit (.bool true)], args := [d1, d2, d3, d4] }
  | _ => none }
def numWidesRow : OpenClaim := { program := "ytalonppmoimmjaa", sum := "9cc2a1548d948a48afed1a9e5346ecfa106287846fd099f377fc82588153895b", func := "spyglass/spylaw1.NumWides", spec := "numWides", inPlace := ["math/bits.Add64"], unfollowed := true, recurses := true, named := ["math/bits.divideError", "math/bits.overflowError"], apart := false }
def NumWidesSaid : Prop := numWidesRow.holds Try.pinned (OpenSpec.ofChange numWidesSpec)

/-- ITS FALSE NEIGHBOUR: 'it returns false'. Refute it at one input. -/
def numWidesWrong : ChangeSpec := { name := "numWides", fn := fun _ => fun
  | [d1, d2, d3, d4] => { results := [.lit (.bool false)], args := [d1, d2, d3, d4] }
  | _ => none }
def NumWidesWrongFalsely : Prop := numWidesRow.holds Try.pinned (OpenSpec.ofChange numWidesWrong)

/-- 'spylaw1.NumWideQuotients': WHATEVER THE INPUT: true; the input reads as it did. -/
def numWideQuotientsSpec : ChangeSpec := { name := "numWideQuotients", fn := fun _ => fun
  | [d1, d2] => { results := [.lit (.bool true)], args := [d1, d2] }
  | _ => none }
def numWideQuotientsRow : OpenClaim := { program := "ytalonppmoimmjaa", sum := "9cc2a1548d948a48afed1a9e5346ecfa106287846fd099f377fc82588153895b", func := "spyglass/spylaw1.NumWideQuotients", spec := "numWideQuotients", recurses := true, named := ["math/bits.divideError", "math/bits.overflowError"], apart := false }
def NumWideQuotientsSaid : Prop := numWideQuotientsRow.holds Try.pinned (OpenSpec.ofChange numWideQuotientsSpec)

/-- ITS FALSE NEIGHBOUR: 'it returns false'. Refute it at one input. -/
def numWideQuotientsWrong : ChangeSpec := { name := "numWideQuotients", fn := fun _ => fun
  | [d1, d2] => { results := [.lit (.bool false)], args := [d1, d2] }
  | _ => none }
def NumWideQuotientsWrongFalsely : Prop := numWideQuotientsRow.holds Try.pinned (OpenSpec.ofChange numWideQuotientsWrong)

/-- 'spylaw1.BoundChecks': WHATEVER THE INPUT: true; the input reads as it did. -/
def boundChecksSpec : ChangeSpec := { name := "boundChecks", fn := fun _ => fun
  | [d1, d2, d3, d4] => { results := [.lit (.bool true)], args := [d1, d2, d3, d4] }
  | _ => none }
def boundChecksRow : OpenClaim := { program := "ytalonppmoimmjaa", sum := "9cc2a1548d948a48afed1a9e5346ecfa106287846fd099f377fc82588153895b", func := "spyglass/spylaw1.BoundChecks", spec := "boundChecks", inPlace := ["math/bits.Add64"], unfollowed := true, recurses := true, named := ["math/bits.divideError", "math/bits.overflowError"], apart := false }
def BoundChecksSaid : Prop := boundChecksRow.holds Try.pinned (OpenSpec.ofChange boundChecksSpec)

/-- ITS FALSE NEIGHBOUR: 'it returns false'. Refute it at one input. -/
def boundChecksWrong : ChangeSpec := { name := "boundChecks", fn := fun _ => fun
  | [d1, d2, d3, d4] => { results := [.lit (.bool false)], args := [d1, d2, d3, d4] }
  | _ => none }
def BoundChecksWrongFalsely : Prop := boundChecksRow.holds Try.pinned (OpenSpec.ofChange boundChecksWrong)

/-- 'spylaw1.BoundSums': WHATEVER THE INPUT: true; the input reads as it did. -/
def boundSumsSpec : ChangeSpec := { name := "boundSums", fn := fun _ => fun
  | [d1, d2, d3] => { results := [.lit (.bool true)], args := [d1, d2, d3] }
  | _ => none }
def boundSumsRow : OpenClaim := { program := "ytalonppmoimmjaa", sum := "9cc2a1548d948a48afed1a9e5346ecfa106287846fd099f377fc82588153895b", func := "spyglass/spylaw1.BoundSums", spec := "boundSums", inPlace := ["math/bits.Add64"], unfollowed := true, recurses := true, named := ["math/bits.divideError", "math/bits.overflowError"], apart := false }
def BoundSumsSaid : Prop := boundSumsRow.holds Try.pinned (OpenSpec.ofChange boundSumsSpec)

/-- ITS FALSE NEIGHBOUR: 'it returns false'. Refute it at one input. -/
def boundSumsWrong : ChangeSpec := { name := "boundSums", fn := fun _ => fun
  | [d1, d2, d3] => { results := [.lit (.bool false)], args := [d1, d2, d3] }
  | _ => none }
def BoundSumsWrongFalsely : Prop := boundSumsRow.holds Try.pinned (OpenSpec.ofChange boundSumsWrong)

/-- 'spylaw1.BoundPairs': WHATEVER THE INPUT: true; the input reads as it did. -/
def boundPairsSpec : ChangeSpec := { name := "boundPairs", fn := fun _ => fun
  | [d1, d2] => { results := [.lit (.bool true)], args := [d1, d2] }
  | _ => none }
def boundPairsRow : OpenClaim := { program := "ytalonppmoimmjaa", sum := "9cc2a1548d948a48afed1a9e5346ecfa106287846fd099f377fc82588153895b", func := "spyglass/spylaw1.BoundPairs", spec := "boundPairs", inPlace := ["math/bits.Add64"], unfollowed := true, recurses := true, named := ["math/bits.divideError", "math/bits.overflowError"], apart := false }
def BoundPairsSaid : Prop := boundPairsRow.holds Try.pinned (OpenSpec.ofChange boundPairsSpec)

/-- ITS FALSE NEIGHBOUR: 'it returns false'. Refute it at one input. -/
def boundPairsWrong : ChangeSpec := { name := "boundPairs", fn := fun _ => fun
  | [d1, d2] => { results := [.lit (.bool false)], args := [d1, d2] }
  | _ => none }
def BoundPairsWrongFalsely : Prop := boundPairsRow.holds Try.pinned (OpenSpec.ofChange boundPairsWrong)

/-- 'spylaw1.BoundProducts': WHATEVER THE INPUT: true; the input reads as it did. -/
def boundProductsSpec : ChangeSpec := { name := "boundProducts", fn := fun _ => fun
  | [d1, d2, d3, d4, d5] => { results := [.lit (.bool true)], args := [d1, d2, d3, d4, d5] }
  | _ => none }
def boundProductsRow : OpenClaim := { program := "ytalonppmoimmjaa", sum := "9cc2a1548d948a48afed1a9e5346ecfa106287846fd099f377fc82588153895b", func := "spyglass/spylaw1.BoundProducts", spec := "boundProducts", inPlace := ["math/bits.Add64"], unfollowed := true, recurses := true, named := ["math/bits.divideError", "math/bits.overflowError"], apart := false }
def BoundProductsSaid : Prop := boundProductsRow.holds Try.pinned (OpenSpec.ofChange boundProductsSpec)

/-- ITS FALSE NEIGHBOUR: 'it returns false'. Refute it at one input. -/
def boundProductsWrong : ChangeSpec := { name := "boundProducts", fn := fun _ => fun
  | [d1, d2, d3, d4, d5] => { results := [.lit (.bool false)], args := [d1, d2, d3, d4, d5] }
  | _ => none }
def BoundProductsWrongFalsely : Prop := boundProductsRow.holds Try.pinned (OpenSpec.ofChange boundProductsWrong)

/-- 'spylaw1.BoundRoots': WHATEVER THE INPUT: true; the input reads as it did. -/
def boundRootsSpec : ChangeSpec := { name := "boundRoots", fn := fun _ => fun
  | [d1, d2] => { results := [.lit (.bool true)], args := [d1, d2] }
  | _ => none }
def boundRootsRow : OpenClaim := { program := "ytalonppmoimmjaa", sum := "9cc2a1548d948a48afed1a9e5346ecfa106287846fd099f377fc82588153895b", func := "spyglass/spylaw1.BoundRoots", spec := "boundRoots", inPlace := ["math/bits.Add64"], unfollowed := true, recurses := true, named := ["math/bits.divideError", "math/bits.overflowError"], apart := false }
def BoundRootsSaid : Prop := boundRootsRow.holds Try.pinned (OpenSpec.ofChange boundRootsSpec)

/-- ITS FALSE NEIGHBOUR: 'it returns false'. Refute it at one input. -/
def boundRootsWrong : ChangeSpec := { name := "boundRoots", fn := fun _ => fun
  | [d1, d2] => { results := [.lit (.bool false)], args := [d1, d2] }
  | _ => none }
def BoundRootsWrongFalsely : Prop := boundRootsRow.holds Try.pinned (OpenSpec.ofChange boundRootsWrong)

/-- 'spylaw1.BoundFuses': WHATEVER THE INPUT: true; the input reads as it did. -/
def boundFusesSpec : ChangeSpec := { name := "boundFuses", fn := fun _ => fun
  | [d1, d2, d3] => { results := [.lit (.bool true)], args := [d1, d2, d3] }
  | _ => none }
def boundFusesRow : OpenClaim := { program := "ytalonppmoimmjaa", sum := "9cc2a1548d948a48afed1a9e5346ecfa106287846fd099f377fc82588153895b", func := "spyglass/spylaw1.BoundFuses", spec := "boundFuses", inPlace := ["math/bits.Add64"], unfollowed := true, recurses := true, named := ["math/bits.divideError", "math/bits.overflowError"], apart := false }
def BoundFusesSaid : Prop := boundFusesRow.holds Try.pinned (OpenSpec.ofChange boundFusesSpec)

/-- ITS FALSE NEIGHBOUR: 'it returns false'. Refute it at one input. -/
def boundFusesWrong : ChangeSpec := { name := "boundFuses", fn := fun _ => fun
  | [d1, d2, d3] => { results := [.lit (.bool false)], args := [d1, d2, d3] }
  | _ => none }
def BoundFusesWrongFalsely : Prop := boundFusesRow.holds Try.pinned (OpenSpec.ofChange boundFusesWrong)

/-- 'spykeep1.BoundIncludes': WHATEVER THE INPUT: true; the input reads as it did. -/
def boundIncludesSpec : ChangeSpec := { name := "boundIncludes", fn := fun _ => fun
  | [d1, d2] => { results := [.lit (.bool true)], args := [d1, d2] }
  | _ => none }
def boundIncludesRow : OpenClaim := { program := "ytalonppmoimmjaa", sum := "9cc2a1548d948a48afed1a9e5346ecfa106287846fd099f377fc82588153895b", func := "spyglass/spykeep1.BoundIncludes", spec := "boundIncludes", inPlace := ["math/bits.Add64"], unfollowed := true, recurses := true, named := ["math/bits.divideError", "math/bits.overflowError"], apart := false }
def BoundIncludesSaid : Prop := boundIncludesRow.holds Try.pinned (OpenSpec.ofChange boundIncludesSpec)

/-- ITS FALSE NEIGHBOUR: 'it returns false'. Refute it at one input. -/
def boundIncludesWrong : ChangeSpec := { name := "boundIncludes", fn := fun _ => fun
  | [d1, d2] => { results := [.lit (.bool false)], args := [d1, d2] }
  | _ => none }
def BoundIncludesWrongFalsely : Prop := boundIncludesRow.holds Try.pinned (OpenSpec.ofChange boundIncludesWrong)

/-- 'spykeep1.BoundIsotone': WHATEVER THE INPUT: true; the input reads as it did. -/
def boundIsotoneSpec : ChangeSpec := { name := "boundIsotone", fn := fun _ => fun
  | [d1, d2, d3] => { results := [.lit (.bool true)], args := [d1, d2, d3] }
  | _ => none }
def boundIsotoneRow : OpenClaim := { program := "ytalonppmoimmjaa", sum := "9cc2a1548d948a48afed1a9e5346ecfa106287846fd099f377fc82588153895b", func := "spyglass/spykeep1.BoundIsotone", spec := "boundIsotone", inPlace := ["math/bits.Add64"], unfollowed := true, recurses := true, named := ["math/bits.divideError", "math/bits.overflowError"], apart := false }
def BoundIsotoneSaid : Prop := boundIsotoneRow.holds Try.pinned (OpenSpec.ofChange boundIsotoneSpec)

/-- ITS FALSE NEIGHBOUR: 'it returns false'. Refute it at one input. -/
def boundIsotoneWrong : ChangeSpec := { name := "boundIsotone", fn := fun _ => fun
  | [d1, d2, d3] => { results := [.lit (.bool false)], args := [d1, d2, d3] }
  | _ => none }
def BoundIsotoneWrongFalsely : Prop := boundIsotoneRow.holds Try.pinned (OpenSpec.ofChange boundIsotoneWrong)

/-- 'spykeep1.BoundFused': WHATEVER THE INPUT: true; the input reads as it did. -/
def boundFusedSpec : ChangeSpec := { name := "boundFused", fn := fun _ => fun
  | [d1, d2, d3] => { results := [.lit (.bool true)], args := [d1, d2, d3] }
  | _ => none }
def boundFusedRow : OpenClaim := { program := "ytalonppmoimmjaa", sum := "9cc2a1548d948a48afed1a9e5346ecfa106287846fd099f377fc82588153895b", func := "spyglass/spykeep1.BoundFused", spec := "boundFused", inPlace := ["math/bits.Add64"], unfollowed := true, recurses := true, named := ["math/bits.divideError", "math/bits.overflowError"], apart := false }
def BoundFusedSaid : Prop := boundFusedRow.holds Try.pinned (OpenSpec.ofChange boundFusedSpec)

/-- ITS FALSE NEIGHBOUR: 'it returns false'. Refute it at one input. -/
def boundFusedWrong : ChangeSpec := { name := "boundFused", fn := fun _ => fun
  | [d1, d2, d3] => { results := [.lit (.bool false)], args := [d1, d2, d3] }
  | _ => none }
def BoundFusedWrongFalsely : Prop := boundFusedRow.holds Try.pinned (OpenSpec.ofChange boundFusedWrong)

/- THE SECOND FORM. 'bulk': how many values and letters a reading holds, each counted each time it is reached (what is shared counts as often as it is met; a slice's spare places count too). A statement '..UptoSaid' is the law's where the arguments, and the package variables that the reading takes, are together of bulk at most 1048576: NARROWER than '..Said'. Prove '..Said' where nothing that the law and all that it calls make is longer than what came in: it says more and counts as full. Else prove '..UptoSaid'. A law counts once. -/
mutual
def uptoBulk {H : Type} : DataW H → Nat
  | .lit (.string bytes) => bytes.length + 1
  | .lit _ => 1
  | .nil => 1
  | .ptr d => uptoBulk d + 1
  | .slice elems spare => uptoBulkAll elems + uptoBulkAll spare + 1
  | .agg parts => uptoBulkAll parts + 1
  | .iface _ d => uptoBulk d + 1
  | .map entries => uptoBulkEntries entries + 1
  | .held _ => 1
def uptoBulkAll {H : Type} : List (DataW H) → Nat
  | [] => 0
  | d :: r => uptoBulk d + uptoBulkAll r
def uptoBulkEntries {H : Type} : List (Lit × DataW H) → Nat
  | [] => 0
  | x :: r => uptoBulkEntry x + uptoBulkEntries r
def uptoBulkEntry {H : Type} : Lit × DataW H → Nat
  | (.string bytes, d) => bytes.length + uptoBulk d + 1
  | (_, d) => uptoBulk d + 1
 end
def uptoSmall : (H : Type) → List (DataW H) → Bool := fun _ ds => decide (uptoBulkAll ds ≤ 1048576)
def OpenSpec.upto (s : _root_.Go.ChangeSpec) : _root_.Go.OpenSpec := { _root_.Go.OpenSpec.ofChange s with cond := some uptoSmall }

/-- 'spylaw1.Names', WHERE WHAT IT READS IS OF BULK AT MOST 1048576: true; the input reads as it did. -/
def namesUptoRow : OpenClaim := { program := "ytalonppmoimmjaa", sum := "9cc2a1548d948a48afed1a9e5346ecfa106287846fd099f377fc82588153895b", func := "spyglass/spylaw1.Names", spec := "names", recurses := true, named := ["math/bits.divideError", "math/bits.overflowError"], apart := false, narrowed := true }
def NamesUptoSaid : Prop := namesUptoRow.holds Try.pinned (OpenSpec.upto namesSpec)

/-- 'spylaw1.NumSums', WHERE WHAT IT READS IS OF BULK AT MOST 1048576: true; the input reads as it did. -/
def numSumsUptoRow : OpenClaim := { program := "ytalonppmoimmjaa", sum := "9cc2a1548d948a48afed1a9e5346ecfa106287846fd099f377fc82588153895b", func := "spyglass/spylaw1.NumSums", spec := "numSums", unfollowed := true, recurses := true, named := ["math/bits.divideError", "math/bits.overflowError"], apart := false, narrowed := true }
def NumSumsUptoSaid : Prop := numSumsUptoRow.holds Try.pinned (OpenSpec.upto numSumsSpec)

/-- 'spylaw1.NumQuotients', WHERE WHAT IT READS IS OF BULK AT MOST 1048576: true; the input reads as it did. -/
def numQuotientsUptoRow : OpenClaim := { program := "ytalonppmoimmjaa", sum := "9cc2a1548d948a48afed1a9e5346ecfa106287846fd099f377fc82588153895b", func := "spyglass/spylaw1.NumQuotients", spec := "numQuotients", unfollowed := true, recurses := true, named := ["math/bits.divideError", "math/bits.overflowError"], apart := false, narrowed := true }
def NumQuotientsUptoSaid : Prop := numQuotientsUptoRow.holds Try.pinned (OpenSpec.upto numQuotientsSpec)

/-- 'spylaw1.NumMulDivs', WHERE WHAT IT READS IS OF BULK AT MOST 1048576: true; the input reads as it did. -/
def numMulDivsUptoRow : OpenClaim := { program := "ytalonppmoimmjaa", sum := "9cc2a1548d948a48afed1a9e5346ecfa106287846fd099f377fc82588153895b", func := "spyglass/spylaw1.NumMulDivs", spec := "numMulDivs", inPlace := ["math/bits.Add64"], recurses := true, named := ["math/bits.divideError", "math/bits.overflowError"], apart := false, narrowed := true }
def NumMulDivsUptoSaid : Prop := numMulDivsUptoRow.holds Try.pinned (OpenSpec.upto numMulDivsSpec)

/-- 'spylaw1.NumRoots', WHERE WHAT IT READS IS OF BULK AT MOST 1048576: true; the input reads as it did. -/
def numRootsUptoRow : OpenClaim := { program := "ytalonppmoimmjaa", sum := "9cc2a1548d948a48afed1a9e5346ecfa106287846fd099f377fc82588153895b", func := "spyglass/spylaw1.NumRoots", spec := "numRoots", recurses := true, named := ["math/bits.divideError", "math/bits.overflowError"], apart := false, narrowed := true }
def NumRootsUptoSaid : Prop := numRootsUptoRow.holds Try.pinned (OpenSpec.upto numRootsSpec)

/-- 'spylaw1.NumWides', WHERE WHAT IT READS IS OF BULK AT MOST 1048576: true; the input reads as it did. -/
def numWidesUptoRow : OpenClaim := { program := "ytalonppmoimmjaa", sum := "9cc2a1548d948a48afed1a9e5346ecfa106287846fd099f377fc82588153895b", func := "spyglass/spylaw1.NumWides", spec := "numWides", inPlace := ["math/bits.Add64"], unfollowed := true, recurses := true, named := ["math/bits.divideError", "math/bits.overflowError"], apart := false, narrowed := true }
def NumWidesUptoSaid : Prop := numWidesUptoRow.holds Try.pinned (OpenSpec.upto numWidesSpec)

/-- 'spylaw1.NumWideQuotients', WHERE WHAT IT READS IS OF BULK AT MOST 1048576: true; the input reads as it did. -/
def numWideQuotientsUptoRow : OpenClaim := { program := "ytalonppmoimmjaa", sum := "9cc2a1548d948a48afed1a9e5346ecfa106287846fd099f377fc82588153895b", func := "spyglass/spylaw1.NumWideQuotients", spec := "numWideQuotients", recurses := true, named := ["math/bits.divideError", "math/bits.overflowError"], apart := false, narrowed := true }
def NumWideQuotientsUptoSaid : Prop := numWideQuotientsUptoRow.holds Try.pinned (OpenSpec.upto numWideQuotientsSpec)

/-- 'spylaw1.BoundChecks', WHERE WHAT IT READS IS OF BULK AT MOST 1048576: true; the input reads as it did. -/
def boundChecksUptoRow : OpenClaim := { program := "ytalonppmoimmjaa", sum := "9cc2a1548d948a48afed1a9e5346ecfa106287846fd099f377fc82588153895b", func := "spyglass/spylaw1.BoundChecks", spec := "boundChecks", inPlace := ["math/bits.Add64"], unfollowed := true, recurses := true, named := ["math/bits.divideError", "math/bits.overflowError"], apart := false, narrowed := true }
def BoundChecksUptoSaid : Prop := boundChecksUptoRow.holds Try.pinned (OpenSpec.upto boundChecksSpec)

/-- 'spylaw1.BoundSums', WHERE WHAT IT READS IS OF BULK AT MOST 1048576: true; the input reads as it did. -/
def boundSumsUptoRow : OpenClaim := { program := "ytalonppmoimmjaa", sum := "9cc2a1548d948a48afed1a9e5346ecfa106287846fd099f377fc82588153895b", func := "spyglass/spylaw1.BoundSums", spec := "boundSums", inPlace := ["math/bits.Add64"], unfollowed := true, recurses := true, named := ["math/bits.divideError", "math/bits.overflowError"], apart := false, narrowed := true }
def BoundSumsUptoSaid : Prop := boundSumsUptoRow.holds Try.pinned (OpenSpec.upto boundSumsSpec)

/-- 'spylaw1.BoundPairs', WHERE WHAT IT READS IS OF BULK AT MOST 1048576: true; the input reads as it did. -/
def boundPairsUptoRow : OpenClaim := { program := "ytalonppmoimmjaa", sum := "9cc2a1548d948a48afed1a9e5346ecfa106287846fd099f377fc82588153895b", func := "spyglass/spylaw1.BoundPairs", spec := "boundPairs", inPlace := ["math/bits.Add64"], unfollowed := true, recurses := true, named := ["math/bits.divideError", "math/bits.overflowError"], apart := false, narrowed := true }
def BoundPairsUptoSaid : Prop := boundPairsUptoRow.holds Try.pinned (OpenSpec.upto boundPairsSpec)

/-- 'spylaw1.BoundProducts', WHERE WHAT IT READS IS OF BULK AT MOST 1048576: true; the input reads as it did. -/
def boundProductsUptoRow : OpenClaim := { program := "ytalonppmoimmjaa", sum := "9cc2a1548d948a48afed1a9e5346ecfa106287846fd099f377fc82588153895b", func := "spyglass/spylaw1.BoundProducts", spec := "boundProducts", inPlace := ["math/bits.Add64"], unfollowed := true, recurses := true, named := ["math/bits.divideError", "math/bits.overflowError"], apart := false, narrowed := true }
def BoundProductsUptoSaid : Prop := boundProductsUptoRow.holds Try.pinned (OpenSpec.upto boundProductsSpec)

/-- 'spylaw1.BoundRoots', WHERE WHAT IT READS IS OF BULK AT MOST 1048576: true; the input reads as it did. -/
def boundRootsUptoRow : OpenClaim := { program := "ytalonppmoimmjaa", sum := "9cc2a1548d948a48afed1a9e5346ecfa106287846fd099f377fc82588153895b", func := "spyglass/spylaw1.BoundRoots", spec := "boundRoots", inPlace := ["math/bits.Add64"], unfollowed := true, recurses := true, named := ["math/bits.divideError", "math/bits.overflowError"], apart := false, narrowed := true }
def BoundRootsUptoSaid : Prop := boundRootsUptoRow.holds Try.pinned (OpenSpec.upto boundRootsSpec)

/-- 'spylaw1.BoundFuses', WHERE WHAT IT READS IS OF BULK AT MOST 1048576: true; the input reads as it did. -/
def boundFusesUptoRow : OpenClaim := { program := "ytalonppmoimmjaa", sum := "9cc2a1548d948a48afed1a9e5346ecfa106287846fd099f377fc82588153895b", func := "spyglass/spylaw1.BoundFuses", spec := "boundFuses", inPlace := ["math/bits.Add64"], unfollowed := true, recurses := true, named := ["math/bits.divideError", "math/bits.overflowError"], apart := false, narrowed := true }
def BoundFusesUptoSaid : Prop := boundFusesUptoRow.holds Try.pinned (OpenSpec.upto boundFusesSpec)

/-- 'spykeep1.BoundIncludes', WHERE WHAT IT READS IS OF BULK AT MOST 1048576: true; the input reads as it did. -/
def boundIncludesUptoRow : OpenClaim := { program := "ytalonppmoimmjaa", sum := "9cc2a1548d948a48afed1a9e5346ecfa106287846fd099f377fc82588153895b", func := "spyglass/spykeep1.BoundIncludes", spec := "boundIncludes", inPlace := ["math/bits.Add64"], unfollowed := true, recurses := true, named := ["math/bits.divideError", "math/bits.overflowError"], apart := false, narrowed := true }
def BoundIncludesUptoSaid : Prop := boundIncludesUptoRow.holds Try.pinned (OpenSpec.upto boundIncludesSpec)

/-- 'spykeep1.BoundIsotone', WHERE WHAT IT READS IS OF BULK AT MOST 1048576: true; the input reads as it did. -/
def boundIsotoneUptoRow : OpenClaim := { program := "ytalonppmoimmjaa", sum := "9cc2a1548d948a48afed1a9e5346ecfa106287846fd099f377fc82588153895b", func := "spyglass/spykeep1.BoundIsotone", spec := "boundIsotone", inPlace := ["math/bits.Add64"], unfollowed := true, recurses := true, named := ["math/bits.divideError", "math/bits.overflowError"], apart := false, narrowed := true }
def BoundIsotoneUptoSaid : Prop := boundIsotoneUptoRow.holds Try.pinned (OpenSpec.upto boundIsotoneSpec)

/-- 'spykeep1.BoundFused', WHERE WHAT IT READS IS OF BULK AT MOST 1048576: true; the input reads as it did. -/
def boundFusedUptoRow : OpenClaim := { program := "ytalonppmoimmjaa", sum := "9cc2a1548d948a48afed1a9e5346ecfa106287846fd099f377fc82588153895b", func := "spyglass/spykeep1.BoundFused", spec := "boundFused", inPlace := ["math/bits.Add64"], unfollowed := true, recurses := true, named := ["math/bits.divideError", "math/bits.overflowError"], apart := false, narrowed := true }
def BoundFusedUptoSaid : Prop := boundFusedUptoRow.holds Try.pinned (OpenSpec.upto boundFusedSpec)

end Rows
end Go.Proofs.Ytalonppmoimmjaa
