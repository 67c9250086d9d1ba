/-
  No cell of these rows narrows 'for every input' (looked for: loops, veiled, ifaces, maps, wideKeys, modest, calm, conditions, laid).
  DERIVED. THE GIVEN ROWS OF THIS SEAT. 4 by the template 'for every input the law returns true; each argument reads behind the call as it read before'; 0 by the template 'total and deterministic' (their statements: YtoaoifiklnbknabTotals.lean).
  GIVEN WITH THE SEED: the statements are not yours to turn. If you find one false, say at which input.
  Laid BY PROGRAM, IN A SANDBOX (cutbox-rows.mjs): the forced cells as the released guide's own fill.sh prints them over the translation 456fb3fe465d6780… (all of the seat's roots in one cut). By AI agents, Wed Nov 11 2026. No macro, syntax, notation, axiom, sorry.
-/
import Derived.Test.YtoaoifiklnbknabChecked
import GoSem.Claim
import GoSem.ClaimJoined
import GoSem.ClaimMapViews
import Derived.JoinedTies
import Derived.KernelRfl
namespace Go.Proofs.Ytoaoifiklnbknab
/- THE CELL 'sum', in the pinned program and in every row, IS THE sha256 OF THE DUMP (.gsa) THAT YtoaoifiklnbknabProg.lean LOADS. Nothing in Lean hashes anything: it is a label: what it is worth is what the hold of that sum in a sandbox is worth. -/
noncomputable def Try.pinned : Pinned := { name := "ytoaoifiklnbknab", sum := "456fb3fe465d6780bc4f40ba7cb23ba69a89dccd4c146e991bd00c48369df531", checked := Try.checked }
namespace Rows
def none {H : Type} : Left H := { results := [], args := [] }

/-- 'spykeep1.BoundFused': WHATEVER THE INPUT: true; the input reads as it did. -/
def boundFusedSpec : ChangeSpec := { name := "boundFused", fn := fun _ => fun
  | [d1, d2, d3] => { results := [.lit (.bool true)], args := [d1, d2, d3] }
  | _ => none }
def boundFusedRow : OpenClaim := { program := "ytoaoifiklnbknab", sum := "456fb3fe465d6780bc4f40ba7cb23ba69a89dccd4c146e991bd00c48369df531", func := "spyglass/spykeep1.BoundFused", spec := "boundFused", inPlace := ["math/bits.Add64"], unfollowed := true, recurses := true, named := ["math/bits.divideError", "math/bits.overflowError"], apart := false }
def BoundFusedSaid : Prop := boundFusedRow.holds Try.pinned (OpenSpec.ofChange boundFusedSpec)

/-- ITS FALSE NEIGHBOUR: 'it returns false'. Refute it at one input. -/
def boundFusedWrong : ChangeSpec := { name := "boundFused", fn := fun _ => fun
  | [d1, d2, d3] => { results := [.lit (.bool false)], args := [d1, d2, d3] }
  | _ => none }
def BoundFusedWrongFalsely : Prop := boundFusedRow.holds Try.pinned (OpenSpec.ofChange boundFusedWrong)

/-- 'spykeep1.ScaleDays': WHATEVER THE INPUT: true; the input reads as it did. -/
def scaleDaysSpec : ChangeSpec := { name := "scaleDays", fn := fun _ => fun
  | [d] => { results := [.lit (.bool true)], args := [d] }
  | _ => none }
def scaleDaysRow : OpenClaim := { program := "ytoaoifiklnbknab", sum := "456fb3fe465d6780bc4f40ba7cb23ba69a89dccd4c146e991bd00c48369df531", func := "spyglass/spykeep1.ScaleDays", spec := "scaleDays", unfollowed := true, recurses := true, apart := false }
def ScaleDaysSaid : Prop := scaleDaysRow.holds Try.pinned (OpenSpec.ofChange scaleDaysSpec)

/-- ITS FALSE NEIGHBOUR: 'it returns false'. Refute it at one input. -/
def scaleDaysWrong : ChangeSpec := { name := "scaleDays", fn := fun _ => fun
  | [d] => { results := [.lit (.bool false)], args := [d] }
  | _ => none }
def ScaleDaysWrongFalsely : Prop := scaleDaysRow.holds Try.pinned (OpenSpec.ofChange scaleDaysWrong)

/-- 'spykeep1.ScaleFirst': WHATEVER THE INPUT: true; the input reads as it did. -/
def scaleFirstSpec : ChangeSpec := { name := "scaleFirst", fn := fun _ => fun
  | [d] => { results := [.lit (.bool true)], args := [d] }
  | _ => none }
def scaleFirstRow : OpenClaim := { program := "ytoaoifiklnbknab", sum := "456fb3fe465d6780bc4f40ba7cb23ba69a89dccd4c146e991bd00c48369df531", func := "spyglass/spykeep1.ScaleFirst", spec := "scaleFirst", inPlace := ["math/bits.Add64"], unfollowed := true, recurses := true, named := ["math/bits.divideError", "math/bits.overflowError"], apart := false }
def ScaleFirstSaid : Prop := scaleFirstRow.holds Try.pinned (OpenSpec.ofChange scaleFirstSpec)

/-- ITS FALSE NEIGHBOUR: 'it returns false'. Refute it at one input. -/
def scaleFirstWrong : ChangeSpec := { name := "scaleFirst", fn := fun _ => fun
  | [d] => { results := [.lit (.bool false)], args := [d] }
  | _ => none }
def ScaleFirstWrongFalsely : Prop := scaleFirstRow.holds Try.pinned (OpenSpec.ofChange scaleFirstWrong)

/-- 'spykeep1.ScaleSiderealNarrow': WHATEVER THE INPUT: true; the input reads as it did. -/
def scaleSiderealNarrowSpec : ChangeSpec := { name := "scaleSiderealNarrow", fn := fun _ => fun
  | [d] => { results := [.lit (.bool true)], args := [d] }
  | _ => none }
def scaleSiderealNarrowRow : OpenClaim := { program := "ytoaoifiklnbknab", sum := "456fb3fe465d6780bc4f40ba7cb23ba69a89dccd4c146e991bd00c48369df531", func := "spyglass/spykeep1.ScaleSiderealNarrow", spec := "scaleSiderealNarrow", inPlace := ["math/bits.Add64"], recurses := true, named := ["math/bits.divideError", "math/bits.overflowError"], apart := false }
def ScaleSiderealNarrowSaid : Prop := scaleSiderealNarrowRow.holds Try.pinned (OpenSpec.ofChange scaleSiderealNarrowSpec)

/-- ITS FALSE NEIGHBOUR: 'it returns false'. Refute it at one input. -/
def scaleSiderealNarrowWrong : ChangeSpec := { name := "scaleSiderealNarrow", fn := fun _ => fun
  | [d] => { results := [.lit (.bool false)], args := [d] }
  | _ => none }
def ScaleSiderealNarrowWrongFalsely : Prop := scaleSiderealNarrowRow.holds Try.pinned (OpenSpec.ofChange scaleSiderealNarrowWrong)

/- THE SECOND FORM. 'bulk': how many values and letters a reading holds, each counted each time it is reached (what is shared counts as often as it is met; a slice's spare places count too). A statement '..UptoSaid' is the law's where the arguments, and the package variables that the reading takes, are together of bulk at most 1048576: NARROWER than '..Said'. Prove '..Said' where nothing that the law and all that it calls make is longer than what came in: it says more and counts as full. Else prove '..UptoSaid'. A law counts once. -/
mutual
def uptoBulk {H : Type} : DataW H → Nat
  | .lit (.string bytes) => bytes.length + 1
  | .lit _ => 1
  | .nil => 1
  | .ptr d => uptoBulk d + 1
  | .slice elems spare => uptoBulkAll elems + uptoBulkAll spare + 1
  | .agg parts => uptoBulkAll parts + 1
  | .iface _ d => uptoBulk d + 1
  | .map entries => uptoBulkEntries entries + 1
  | .held _ => 1
def uptoBulkAll {H : Type} : List (DataW H) → Nat
  | [] => 0
  | d :: r => uptoBulk d + uptoBulkAll r
def uptoBulkEntries {H : Type} : List (Lit × DataW H) → Nat
  | [] => 0
  | x :: r => uptoBulkEntry x + uptoBulkEntries r
def uptoBulkEntry {H : Type} : Lit × DataW H → Nat
  | (.string bytes, d) => bytes.length + uptoBulk d + 1
  | (_, d) => uptoBulk d + 1
 end
def uptoSmall : (H : Type) → List (DataW H) → Bool := fun _ ds => decide (uptoBulkAll ds ≤ 1048576)
def OpenSpec.upto (s : _root_.Go.ChangeSpec) : _root_.Go.OpenSpec := { _root_.Go.OpenSpec.ofChange s with cond := some uptoSmall }

/-- 'spykeep1.BoundFused', WHERE WHAT IT READS IS OF BULK AT MOST 1048576: true; the input reads as it did. -/
def boundFusedUptoRow : OpenClaim := { program := "ytoaoifiklnbknab", sum := "456fb3fe465d6780bc4f40ba7cb23ba69a89dccd4c146e991bd00c48369df531", func := "spyglass/spykeep1.BoundFused", spec := "boundFused", inPlace := ["math/bits.Add64"], unfollowed := true, recurses := true, named := ["math/bits.divideError", "math/bits.overflowError"], apart := false, narrowed := true }
def BoundFusedUptoSaid : Prop := boundFusedUptoRow.holds Try.pinned (OpenSpec.upto boundFusedSpec)

/-- 'spykeep1.ScaleDays', WHERE WHAT IT READS IS OF BULK AT MOST 1048576: true; the input reads as it did. -/
def scaleDaysUptoRow : OpenClaim := { program := "ytoaoifiklnbknab", sum := "456fb3fe465d6780bc4f40ba7cb23ba69a89dccd4c146e991bd00c48369df531", func := "spyglass/spykeep1.ScaleDays", spec := "scaleDays", unfollowed := true, recurses := true, apart := false, narrowed := true }
def ScaleDaysUptoSaid : Prop := scaleDaysUptoRow.holds Try.pinned (OpenSpec.upto scaleDaysSpec)

/-- 'spykeep1.ScaleFirst', WHERE WHAT IT READS IS OF BULK AT MOST 1048576: true; the input reads as it did. -/
def scaleFirstUptoRow : OpenClaim := { program := "ytoaoifiklnbknab", sum := "456fb3fe465d6780bc4f40ba7cb23ba69a89dccd4c146e991bd00c48369df531", func := "spyglass/spykeep1.ScaleFirst", spec := "scaleFirst", inPlace := ["math/bits.Add64"], unfollowed := true, recurses := true, named := ["math/bits.divideError", "math/bits.overflowError"], apart := false, narrowed := true }
def ScaleFirstUptoSaid : Prop := scaleFirstUptoRow.holds Try.pinned (OpenSpec.upto scaleFirstSpec)

/-- 'spykeep1.ScaleSiderealNarrow', WHERE WHAT IT READS IS OF BULK AT MOST 1048576: true; the input reads as it did. -/
def scaleSiderealNarrowUptoRow : OpenClaim := { program := "ytoaoifiklnbknab", sum := "456fb3fe465d6780bc4f40ba7cb23ba69a89dccd4c146e991bd00c48369df531", func := "spyglass/spykeep1.ScaleSiderealNarrow", spec := "scaleSiderealNarrow", inPlace := ["math/bits.Add64"], recurses := true, named := ["math/bits.divideError", "math/bits.overflowError"], apart := false, narrowed := true }
def ScaleSiderealNarrowUptoSaid : Prop := scaleSiderealNarrowUptoRow.holds Try.pinned (OpenSpec.upto scaleSiderealNarrowSpec)

end Rows
end Go.Proofs.Ytoaoifiklnbknab
