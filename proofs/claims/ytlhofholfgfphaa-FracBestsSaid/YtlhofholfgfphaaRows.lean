/-
  No cell of these rows narrows 'for every input' (looked for: loops, veiled, ifaces, maps, wideKeys, modest, calm, conditions, laid).
  DERIVED. THE GIVEN ROWS OF THIS SEAT. 12 by the template 'for every input the law returns true; each argument reads behind the call as it read before'; 0 by the template 'total and deterministic' (their statements: YtlhofholfgfphaaTotals.lean).
  GIVEN WITH THE SEED: the statements are not yours to turn. If you find one false, say at which input.
  Laid BY PROGRAM, IN A SANDBOX (cutbox-rows.mjs): the forced cells as the released guide's own fill.sh prints them over the translation df13b2b5211fe0a9… (all of the seat's roots in one cut). By AI agents, Wed Nov 11 2026. No macro, syntax, notation, axiom, sorry.
-/
import Derived.Test.YtlhofholfgfphaaChecked
import GoSem.Claim
import GoSem.ClaimJoined
import GoSem.ClaimMapViews
import Derived.JoinedTies
import Derived.KernelRfl
namespace Go.Proofs.Ytlhofholfgfphaa
/- THE CELL 'sum', in the pinned program and in every row, IS THE sha256 OF THE DUMP (.gsa) THAT YtlhofholfgfphaaProg.lean LOADS. Nothing in Lean hashes anything: it is a label: what it is worth is what the hold of that sum in a sandbox is worth. -/
noncomputable def Try.pinned : Pinned := { name := "ytlhofholfgfphaa", sum := "df13b2b5211fe0a9c0a915b6636297d380e1c6656f6d3dbac22a98481298974d", checked := Try.checked }
namespace Rows
def none {H : Type} : Left H := { results := [], args := [] }

/-- 'spylaw1.BoundChecks': WHATEVER THE INPUT: true; the input reads as it did. -/
def boundChecksSpec : ChangeSpec := { name := "boundChecks", fn := fun _ => fun
  | [d1, d2, d3, d4] => { results := [.lit (.bool true)], args := [d1, d2, d3, d4] }
  | _ => none }
def boundChecksRow : OpenClaim := { program := "ytlhofholfgfphaa", sum := "df13b2b5211fe0a9c0a915b6636297d380e1c6656f6d3dbac22a98481298974d", func := "spyglass/spylaw1.BoundChecks", spec := "boundChecks", inPlace := ["math/bits.Add64"], unfollowed := true, recurses := true, named := ["math/bits.divideError", "math/bits.overflowError"], apart := false }
def BoundChecksSaid : Prop := boundChecksRow.holds Try.pinned (OpenSpec.ofChange boundChecksSpec)

/-- ITS FALSE NEIGHBOUR: 'it returns false'. Refute it at one input. -/
def boundChecksWrong : ChangeSpec := { name := "boundChecks", fn := fun _ => fun
  | [d1, d2, d3, d4] => { results := [.lit (.bool false)], args := [d1, d2, d3, d4] }
  | _ => none }
def BoundChecksWrongFalsely : Prop := boundChecksRow.holds Try.pinned (OpenSpec.ofChange boundChecksWrong)

/-- 'spylaw1.BoundSums': WHATEVER THE INPUT: true; the input reads as it did. -/
def boundSumsSpec : ChangeSpec := { name := "boundSums", fn := fun _ => fun
  | [d1, d2, d3] => { results := [.lit (.bool true)], args := [d1, d2, d3] }
  | _ => none }
def boundSumsRow : OpenClaim := { program := "ytlhofholfgfphaa", sum := "df13b2b5211fe0a9c0a915b6636297d380e1c6656f6d3dbac22a98481298974d", func := "spyglass/spylaw1.BoundSums", spec := "boundSums", inPlace := ["math/bits.Add64"], unfollowed := true, recurses := true, named := ["math/bits.divideError", "math/bits.overflowError"], apart := false }
def BoundSumsSaid : Prop := boundSumsRow.holds Try.pinned (OpenSpec.ofChange boundSumsSpec)

/-- ITS FALSE NEIGHBOUR: 'it returns false'. Refute it at one input. -/
def boundSumsWrong : ChangeSpec := { name := "boundSums", fn := fun _ => fun
  | [d1, d2, d3] => { results := [.lit (.bool false)], args := [d1, d2, d3] }
  | _ => none }
def BoundSumsWrongFalsely : Prop := boundSumsRow.holds Try.pinned (OpenSpec.ofChange boundSumsWrong)

/-- 'spylaw1.BoundPairs': WHATEVER THE INPUT: true; the input reads as it did. -/
def boundPairsSpec : ChangeSpec := { name := "boundPairs", fn := fun _ => fun
  | [d1, d2] => { results := [.lit (.bool true)], args := [d1, d2] }
  | _ => none }
def boundPairsRow : OpenClaim := { program := "ytlhofholfgfphaa", sum := "df13b2b5211fe0a9c0a915b6636297d380e1c6656f6d3dbac22a98481298974d", func := "spyglass/spylaw1.BoundPairs", spec := "boundPairs", inPlace := ["math/bits.Add64"], unfollowed := true, recurses := true, named := ["math/bits.divideError", "math/bits.overflowError"], apart := false }
def BoundPairsSaid : Prop := boundPairsRow.holds Try.pinned (OpenSpec.ofChange boundPairsSpec)

/-- ITS FALSE NEIGHBOUR: 'it returns false'. Refute it at one input. -/
def boundPairsWrong : ChangeSpec := { name := "boundPairs", fn := fun _ => fun
  | [d1, d2] => { results := [.lit (.bool false)], args := [d1, d2] }
  | _ => none }
def BoundPairsWrongFalsely : Prop := boundPairsRow.holds Try.pinned (OpenSpec.ofChange boundPairsWrong)

/-- 'spylaw1.BoundProducts': WHATEVER THE INPUT: true; the input reads as it did. -/
def boundProductsSpec : ChangeSpec := { name := "boundProducts", fn := fun _ => fun
  | [d1, d2, d3, d4, d5] => { results := [.lit (.bool true)], args := [d1, d2, d3, d4, d5] }
  | _ => none }
def boundProductsRow : OpenClaim := { program := "ytlhofholfgfphaa", sum := "df13b2b5211fe0a9c0a915b6636297d380e1c6656f6d3dbac22a98481298974d", func := "spyglass/spylaw1.BoundProducts", spec := "boundProducts", inPlace := ["math/bits.Add64"], unfollowed := true, recurses := true, named := ["math/bits.divideError", "math/bits.overflowError"], apart := false }
def BoundProductsSaid : Prop := boundProductsRow.holds Try.pinned (OpenSpec.ofChange boundProductsSpec)

/-- ITS FALSE NEIGHBOUR: 'it returns false'. Refute it at one input. -/
def boundProductsWrong : ChangeSpec := { name := "boundProducts", fn := fun _ => fun
  | [d1, d2, d3, d4, d5] => { results := [.lit (.bool false)], args := [d1, d2, d3, d4, d5] }
  | _ => none }
def BoundProductsWrongFalsely : Prop := boundProductsRow.holds Try.pinned (OpenSpec.ofChange boundProductsWrong)

/-- 'spylaw1.BoundRoots': WHATEVER THE INPUT: true; the input reads as it did. -/
def boundRootsSpec : ChangeSpec := { name := "boundRoots", fn := fun _ => fun
  | [d1, d2] => { results := [.lit (.bool true)], args := [d1, d2] }
  | _ => none }
def boundRootsRow : OpenClaim := { program := "ytlhofholfgfphaa", sum := "df13b2b5211fe0a9c0a915b6636297d380e1c6656f6d3dbac22a98481298974d", func := "spyglass/spylaw1.BoundRoots", spec := "boundRoots", inPlace := ["math/bits.Add64"], unfollowed := true, recurses := true, named := ["math/bits.divideError", "math/bits.overflowError"], apart := false }
def BoundRootsSaid : Prop := boundRootsRow.holds Try.pinned (OpenSpec.ofChange boundRootsSpec)

/-- ITS FALSE NEIGHBOUR: 'it returns false'. Refute it at one input. -/
def boundRootsWrong : ChangeSpec := { name := "boundRoots", fn := fun _ => fun
  | [d1, d2] => { results := [.lit (.bool false)], args := [d1, d2] }
  | _ => none }
def BoundRootsWrongFalsely : Prop := boundRootsRow.holds Try.pinned (OpenSpec.ofChange boundRootsWrong)

/-- 'spylaw1.BoundFuses': WHATEVER THE INPUT: true; the input reads as it did. -/
def boundFusesSpec : ChangeSpec := { name := "boundFuses", fn := fun _ => fun
  | [d1, d2, d3] => { results := [.lit (.bool true)], args := [d1, d2, d3] }
  | _ => none }
def boundFusesRow : OpenClaim := { program := "ytlhofholfgfphaa", sum := "df13b2b5211fe0a9c0a915b6636297d380e1c6656f6d3dbac22a98481298974d", func := "spyglass/spylaw1.BoundFuses", spec := "boundFuses", inPlace := ["math/bits.Add64"], unfollowed := true, recurses := true, named := ["math/bits.divideError", "math/bits.overflowError"], apart := false }
def BoundFusesSaid : Prop := boundFusesRow.holds Try.pinned (OpenSpec.ofChange boundFusesSpec)

/-- ITS FALSE NEIGHBOUR: 'it returns false'. Refute it at one input. -/
def boundFusesWrong : ChangeSpec := { name := "boundFuses", fn := fun _ => fun
  | [d1, d2, d3] => { results := [.lit (.bool false)], args := [d1, d2, d3] }
  | _ => none }
def BoundFusesWrongFalsely : Prop := boundFusesRow.holds Try.pinned (OpenSpec.ofChange boundFusesWrong)

/-- 'spykeep1.BoundIncludes': WHATEVER THE INPUT: true; the input reads as it did. -/
def boundIncludesSpec : ChangeSpec := { name := "boundIncludes", fn := fun _ => fun
  | [d1, d2] => { results := [.lit (.bool true)], args := [d1, d2] }
  | _ => none }
def boundIncludesRow : OpenClaim := { program := "ytlhofholfgfphaa", sum := "df13b2b5211fe0a9c0a915b6636297d380e1c6656f6d3dbac22a98481298974d", func := "spyglass/spykeep1.BoundIncludes", spec := "boundIncludes", inPlace := ["math/bits.Add64"], unfollowed := true, recurses := true, named := ["math/bits.divideError", "math/bits.overflowError"], apart := false }
def BoundIncludesSaid : Prop := boundIncludesRow.holds Try.pinned (OpenSpec.ofChange boundIncludesSpec)

/-- ITS FALSE NEIGHBOUR: 'it returns false'. Refute it at one input. -/
def boundIncludesWrong : ChangeSpec := { name := "boundIncludes", fn := fun _ => fun
  | [d1, d2] => { results := [.lit (.bool false)], args := [d1, d2] }
  | _ => none }
def BoundIncludesWrongFalsely : Prop := boundIncludesRow.holds Try.pinned (OpenSpec.ofChange boundIncludesWrong)

/-- 'spykeep1.BoundIsotone': WHATEVER THE INPUT: true; the input reads as it did. -/
def boundIsotoneSpec : ChangeSpec := { name := "boundIsotone", fn := fun _ => fun
  | [d1, d2, d3] => { results := [.lit (.bool true)], args := [d1, d2, d3] }
  | _ => none }
def boundIsotoneRow : OpenClaim := { program := "ytlhofholfgfphaa", sum := "df13b2b5211fe0a9c0a915b6636297d380e1c6656f6d3dbac22a98481298974d", func := "spyglass/spykeep1.BoundIsotone", spec := "boundIsotone", inPlace := ["math/bits.Add64"], unfollowed := true, recurses := true, named := ["math/bits.divideError", "math/bits.overflowError"], apart := false }
def BoundIsotoneSaid : Prop := boundIsotoneRow.holds Try.pinned (OpenSpec.ofChange boundIsotoneSpec)

/-- ITS FALSE NEIGHBOUR: 'it returns false'. Refute it at one input. -/
def boundIsotoneWrong : ChangeSpec := { name := "boundIsotone", fn := fun _ => fun
  | [d1, d2, d3] => { results := [.lit (.bool false)], args := [d1, d2, d3] }
  | _ => none }
def BoundIsotoneWrongFalsely : Prop := boundIsotoneRow.holds Try.pinned (OpenSpec.ofChange boundIsotoneWrong)

/-- 'spykeep1.BoundFused': WHATEVER THE INPUT: true; the input reads as it did. -/
def boundFusedSpec : ChangeSpec := { name := "boundFused", fn := fun _ => fun
  | [d1, d2, d3] => { results := [.lit (.bool true)], args := [d1, d2, d3] }
  | _ => none }
def boundFusedRow : OpenClaim := { program := "ytlhofholfgfphaa", sum := "df13b2b5211fe0a9c0a915b6636297d380e1c6656f6d3dbac22a98481298974d", func := "spyglass/spykeep1.BoundFused", spec := "boundFused", inPlace := ["math/bits.Add64"], unfollowed := true, recurses := true, named := ["math/bits.divideError", "math/bits.overflowError"], apart := false }
def BoundFusedSaid : Prop := boundFusedRow.holds Try.pinned (OpenSpec.ofChange boundFusedSpec)

/-- ITS FALSE NEIGHBOUR: 'it returns false'. Refute it at one input. -/
def boundFusedWrong : ChangeSpec := { name := "boundFused", fn := fun _ => fun
  | [d1, d2, d3] => { results := [.lit (.bool false)], args := [d1, d2, d3] }
  | _ => none }
def BoundFusedWrongFalsely : Prop := boundFusedRow.holds Try.pinned (OpenSpec.ofChange boundFusedWrong)

/-- 'spylaw1.FracSums': WHATEVER THE INPUT: true; the input reads as it did. -/
def fracSumsSpec : ChangeSpec := { name := "fracSums", fn := fun _ => fun
  | [d1, d2, d3, d4] => { results := [.lit (.bool true)], args := [d1, d2, d3, d4] }
  | _ => none }
def fracSumsRow : OpenClaim := { program := "ytlhofholfgfphaa", sum := "df13b2b5211fe0a9c0a915b6636297d380e1c6656f6d3dbac22a98481298974d", func := "spyglass/spylaw1.FracSums", spec := "fracSums", inPlace := ["math/bits.Add64"], unfollowed := true, recurses := true, named := ["math/bits.divideError", "math/bits.overflowError"], apart := false }
def FracSumsSaid : Prop := fracSumsRow.holds Try.pinned (OpenSpec.ofChange fracSumsSpec)

/-- ITS FALSE NEIGHBOUR: 'it returns false'. Refute it at one input. -/
def fracSumsWrong : ChangeSpec := { name := "fracSums", fn := fun _ => fun
  | [d1, d2, d3, d4] => { results := [.lit (.bool false)], args := [d1, d2, d3, d4] }
  | _ => none }
def FracSumsWrongFalsely : Prop := fracSumsRow.holds Try.pinned (OpenSpec.ofChange fracSumsWrong)

/-- 'spylaw1.FracTerms': WHATEVER THE INPUT: true; the input reads as it did. -/
def fracTermsSpec : ChangeSpec := { name := "fracTerms", fn := fun _ => fun
  | [d1, d2] => { results := [.lit (.bool true)], args := [d1, d2] }
  | _ => none }
def fracTermsRow : OpenClaim := { program := "ytlhofholfgfphaa", sum := "df13b2b5211fe0a9c0a915b6636297d380e1c6656f6d3dbac22a98481298974d", func := "spyglass/spylaw1.FracTerms", spec := "fracTerms", inPlace := ["math/bits.Add64"], recurses := true, named := ["math/bits.divideError", "math/bits.overflowError"], apart := false }
def FracTermsSaid : Prop := fracTermsRow.holds Try.pinned (OpenSpec.ofChange fracTermsSpec)

/-- ITS FALSE NEIGHBOUR: 'it returns false'. Refute it at one input. -/
def fracTermsWrong : ChangeSpec := { name := "fracTerms", fn := fun _ => fun
  | [d1, d2] => { results := [.lit (.bool false)], args := [d1, d2] }
  | _ => none }
def FracTermsWrongFalsely : Prop := fracTermsRow.holds Try.pinned (OpenSpec.ofChange fracTermsWrong)

/-- 'spylaw1.FracBests': WHATEVER THE INPUT: true; the input reads as it did. -/
def fracBestsSpec : ChangeSpec := { name := "fracBests", fn := fun _ => fun
  | [d1, d2] => { results := [.lit (.bool true)], args := [d1, d2] }
  | _ => none }
def fracBestsRow : OpenClaim := { program := "ytlhofholfgfphaa", sum := "df13b2b5211fe0a9c0a915b6636297d380e1c6656f6d3dbac22a98481298974d", func := "spyglass/spylaw1.FracBests", spec := "fracBests", inPlace := ["math/bits.Add64"], recurses := true, named := ["math/bits.divideError", "math/bits.overflowError"], apart := false }
def FracBestsSaid : Prop := fracBestsRow.holds Try.pinned (OpenSpec.ofChange fracBestsSpec)

/-- ITS FALSE NEIGHBOUR: 'it returns false'. Refute it at one input. -/
def fracBestsWrong : ChangeSpec := { name := "fracBests", fn := fun _ => fun
  | [d1, d2] => { results := [.lit (.bool false)], args := [d1, d2] }
  | _ => none }
def FracBestsWrongFalsely : Prop := fracBestsRow.holds Try.pinned (OpenSpec.ofChange fracBestsWrong)

/- THE SECOND FORM. 'bulk': how many values and letters a reading holds, each counted each time it is reached (what is shared counts as often as it is met; a slice's spare places count too). A statement '..UptoSaid' is the law's where the arguments, and the package variables that the reading takes, are together of bulk at most 1048576: NARROWER than '..Said'. Prove '..Said' where nothing that the law and all that it calls make is longer than what came in: it says more and counts as full. Else prove '..UptoSaid'. A law counts once. -/
mutual
def uptoBulk {H : Type} : DataW H → Nat
  | .lit (.string bytes) => bytes.length + 1
  | .lit _ => 1
  | .nil => 1
  | .ptr d => uptoBulk d + 1
  | .slice elems spare => uptoBulkAll elems + uptoBulkAll spare + 1
  | .agg parts => uptoBulkAll parts + 1
  | .iface _ d => uptoBulk d + 1
  | .map entries => uptoBulkEntries entries + 1
  | .held _ => 1
def uptoBulkAll {H : Type} : List (DataW H) → Nat
  | [] => 0
  | d :: r => uptoBulk d + uptoBulkAll r
def uptoBulkEntries {H : Type} : List (Lit × DataW H) → Nat
  | [] => 0
  | x :: r => uptoBulkEntry x + uptoBulkEntries r
def uptoBulkEntry {H : Type} : Lit × DataW H → Nat
  | (.string bytes, d) => bytes.length + uptoBulk d + 1
  | (_, d) => uptoBulk d + 1
 end
def uptoSmall : (H : Type) → List (DataW H) → Bool := fun _ ds => decide (uptoBulkAll ds ≤ 1048576)
def OpenSpec.upto (s : _root_.Go.ChangeSpec) : _root_.Go.OpenSpec := { _root_.Go.OpenSpec.ofChange s with cond := some uptoSmall }

/-- 'spylaw1.BoundChecks', WHERE WHAT IT READS IS OF BULK AT MOST 1048576: true; the input reads as it did. -/
def boundChecksUptoRow : OpenClaim := { program := "ytlhofholfgfphaa", sum := "df13b2b5211fe0a9c0a915b6636297d380e1c6656f6d3dbac22a98481298974d", func := "spyglass/spylaw1.BoundChecks", spec := "boundChecks", inPlace := ["math/bits.Add64"], unfollowed := true, recurses := true, named := ["math/bits.divideError", "math/bits.overflowError"], apart := false, narrowed := true }
def BoundChecksUptoSaid : Prop := boundChecksUptoRow.holds Try.pinned (OpenSpec.upto boundChecksSpec)

/-- 'spylaw1.BoundSums', WHERE WHAT IT READS IS OF BULK AT MOST 1048576: true; the input reads as it did. -/
def boundSumsUptoRow : OpenClaim := { program := "ytlhofholfgfphaa", sum := "df13b2b5211fe0a9c0a915b6636297d380e1c6656f6d3dbac22a98481298974d", func := "spyglass/spylaw1.BoundSums", spec := "boundSums", inPlace := ["math/bits.Add64"], unfollowed := true, recurses := true, named := ["math/bits.divideError", "math/bits.overflowError"], apart := false, narrowed := true }
def BoundSumsUptoSaid : Prop := boundSumsUptoRow.holds Try.pinned (OpenSpec.upto boundSumsSpec)

/-- 'spylaw1.BoundPairs', WHERE WHAT IT READS IS OF BULK AT MOST 1048576: true; the input reads as it did. -/
def boundPairsUptoRow : OpenClaim := { program := "ytlhofholfgfphaa", sum := "df13b2b5211fe0a9c0a915b6636297d380e1c6656f6d3dbac22a98481298974d", func := "spyglass/spylaw1.BoundPairs", spec := "boundPairs", inPlace := ["math/bits.Add64"], unfollowed := true, recurses := true, named := ["math/bits.divideError", "math/bits.overflowError"], apart := false, narrowed := true }
def BoundPairsUptoSaid : Prop := boundPairsUptoRow.holds Try.pinned (OpenSpec.upto boundPairsSpec)

/-- 'spylaw1.BoundProducts', WHERE WHAT IT READS IS OF BULK AT MOST 1048576: true; the input reads as it did. -/
def boundProductsUptoRow : OpenClaim := { program := "ytlhofholfgfphaa", sum := "df13b2b5211fe0a9c0a915b6636297d380e1c6656f6d3dbac22a98481298974d", func := "spyglass/spylaw1.BoundProducts", spec := "boundProducts", inPlace := ["math/bits.Add64"], unfollowed := true, recurses := true, named := ["math/bits.divideError", "math/bits.overflowError"], apart := false, narrowed := true }
def BoundProductsUptoSaid : Prop := boundProductsUptoRow.holds Try.pinned (OpenSpec.upto boundProductsSpec)

/-- 'spylaw1.BoundRoots', WHERE WHAT IT READS IS OF BULK AT MOST 1048576: true; the input reads as it did. -/
def boundRootsUptoRow : OpenClaim := { program := "ytlhofholfgfphaa", sum := "df13b2b5211fe0a9c0a915b6636297d380e1c6656f6d3dbac22a98481298974d", func := "spyglass/spylaw1.BoundRoots", spec := "boundRoots", inPlace := ["math/bits.Add64"], unfollowed := true, recurses := true, named := ["math/bits.divideError", "math/bits.overflowError"], apart := false, narrowed := true }
def BoundRootsUptoSaid : Prop := boundRootsUptoRow.holds Try.pinned (OpenSpec.upto boundRootsSpec)

/-- 'spylaw1.BoundFuses', WHERE WHAT IT READS IS OF BULK AT MOST 1048576: true; the input reads as it did. -/
def boundFusesUptoRow : OpenClaim := { program := "ytlhofholfgfphaa", sum := "df13b2b5211fe0a9c0a915b6636297d380e1c6656f6d3dbac22a98481298974d", func := "spyglass/spylaw1.BoundFuses", spec := "boundFuses", inPlace := ["math/bits.Add64"], unfollowed := true, recurses := true, named := ["math/bits.divideError", "math/bits.overflowError"], apart := false, narrowed := true }
def BoundFusesUptoSaid : Prop := boundFusesUptoRow.holds Try.pinned (OpenSpec.upto boundFusesSpec)

/-- 'spykeep1.BoundIncludes', WHERE WHAT IT READS IS OF BULK AT MOST 1048576: true; the input reads as it did. -/
def boundIncludesUptoRow : OpenClaim := { program := "ytlhofholfgfphaa", sum := "df13b2b5211fe0a9c0a915b6636297d380e1c6656f6d3dbac22a98481298974d", func := "spyglass/spykeep1.BoundIncludes", spec := "boundIncludes", inPlace := ["math/bits.Add64"], unfollowed := true, recurses := true, named := ["math/bits.divideError", "math/bits.overflowError"], apart := false, narrowed := true }
def BoundIncludesUptoSaid : Prop := boundIncludesUptoRow.holds Try.pinned (OpenSpec.upto boundIncludesSpec)

/-- 'spykeep1.BoundIsotone', WHERE WHAT IT READS IS OF BULK AT MOST 1048576: true; the input reads as it did. -/
def boundIsotoneUptoRow : OpenClaim := { program := "ytlhofholfgfphaa", sum := "df13b2b5211fe0a9c0a915b6636297d380e1c6656f6d3dbac22a98481298974d", func := "spyglass/spykeep1.BoundIsotone", spec := "boundIsotone", inPlace := ["math/bits.Add64"], unfollowed := true, recurses := true, named := ["math/bits.divideError", "math/bits.overflowError"], apart := false, narrowed := true }
def BoundIsotoneUptoSaid : Prop := boundIsotoneUptoRow.holds Try.pinned (OpenSpec.upto boundIsotoneSpec)

/-- 'spykeep1.BoundFused', WHERE WHAT IT READS IS OF BULK AT MOST 1048576: true; the input reads as it did. -/
def boundFusedUptoRow : OpenClaim := { program := "ytlhofholfgfphaa", sum := "df13b2b5211fe0a9c0a915b6636297d380e1c6656f6d3dbac22a98481298974d", func := "spyglass/spykeep1.BoundFused", spec := "boundFused", inPlace := ["math/bits.Add64"], unfollowed := true, recurses := true, named := ["math/bits.divideError", "math/bits.overflowError"], apart := false, narrowed := true }
def BoundFusedUptoSaid : Prop := boundFusedUptoRow.holds Try.pinned (OpenSpec.upto boundFusedSpec)

/-- 'spylaw1.FracSums', WHERE WHAT IT READS IS OF BULK AT MOST 1048576: true; the input reads as it did. -/
def fracSumsUptoRow : OpenClaim := { program := "ytlhofholfgfphaa", sum := "df13b2b5211fe0a9c0a915b6636297d380e1c6656f6d3dbac22a98481298974d", func := "spyglass/spylaw1.FracSums", spec := "fracSums", inPlace := ["math/bits.Add64"], unfollowed := true, recurses := true, named := ["math/bits.divideError", "math/bits.overflowError"], apart := false, narrowed := true }
def FracSumsUptoSaid : Prop := fracSumsUptoRow.holds Try.pinned (OpenSpec.upto fracSumsSpec)

/-- 'spylaw1.FracTerms', WHERE WHAT IT READS IS OF BULK AT MOST 1048576: true; the input reads as it did. -/
def fracTermsUptoRow : OpenClaim := { program := "ytlhofholfgfphaa", sum := "df13b2b5211fe0a9c0a915b6636297d380e1c6656f6d3dbac22a98481298974d", func := "spyglass/spylaw1.FracTerms", spec := "fracTerms", inPlace := ["math/bits.Add64"], recurses := true, named := ["math/bits.divideError", "math/bits.overflowError"], apart := false, narrowed := true }
def FracTermsUptoSaid : Prop := fracTermsUptoRow.holds Try.pinned (OpenSpec.upto fracTermsSpec)

/-- 'spylaw1.FracBests', WHERE WHAT IT READS IS OF BULK AT MOST 1048576: true; the input reads as it did. -/
def fracBestsUptoRow : OpenClaim := { program := "ytlhofholfgfphaa", sum := "df13b2b5211fe0a9c0a915b6636297d380e1c6656f6d3dbac22a98481298974d", func := "spyglass/spylaw1.FracBests", spec := "fracBests", inPlace := ["math/bits.Add64"], recurses := true, named := ["math/bits.divideError", "math/bits.overflowError"], apart := false, narrowed := true }
def FracBestsUptoSaid : Prop := fracBestsUptoRow.holds Try.pinned (OpenSpec.upto fracBestsSpec)

end Rows
end Go.Proofs.Ytlhofholfgfphaa
