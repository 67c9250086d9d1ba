/-
  DERIVED. GIVEN WITH THE SEED: THE CARDS: each row of YtocheeocnbfbiaaDoorRows.lean that lists a variable, with what it lists TIED to the program's text (the seventh form; the later family's looks); each row that meets fmt, with fmt's text TOLD by the authors' own Lean function (tested against real Go, not proved from fmt's source: count such statements apart). THE CARD IS WHAT COUNTS. Prove the row's statement (the work); the ties are given (YtocheeocnbfbiaaDoorTie.lean); close each card by the builder's one call (the guide's Derived/Test/ToyasCard.lean, 'card_holds'). Laid BY PROGRAM, IN A SANDBOX (cutbox-door.mjs). By AI agents, Wed Nov 11 2026. No macro, syntax, notation, axiom, sorry.
-/
import Derived.Test.YtocheeocnbfbiaaDoorRows
import GoSem.ClaimSeven
namespace Go.Proofs.YtocheeocnbfbiaaDoor
namespace Rows

/-- THE TIED CARD OF 'spykeep1.FracBack'. -/
def fracBackCard : Claim7 := { stood := { row := fracBackRow, standIns := [], harness := (true, "8ba809cf9c7a61ed7d1919ec5a84c6d9e1162a8f5d5ae74524335cf51ac2b232"), looks := true }, kinds := [], alts := [], laidByText := true, laidKinds := [.data, .data, .data], laidTests := true, laidLooks := .later }
def FracBackCardSaid : Prop := Claim7.holds Tryd.pinned (.plain (OpenSpec.ofChange fracBackSpec)) fracBackCard

/-- THE TIED CARD OF 'spykeep1.ScaleThere'. -/
def scaleThereCard : Claim7 := { stood := { row := scaleThereRow, standIns := [], harness := (true, "8ba809cf9c7a61ed7d1919ec5a84c6d9e1162a8f5d5ae74524335cf51ac2b232"), looks := true }, kinds := [], alts := [], laidByText := true, laidKinds := [.data, .data, .data, .sentinel, .sentinel], laidTests := true, laidLooks := .later }
def ScaleThereCardSaid : Prop := Claim7.holds Tryd.pinned (.plain (OpenSpec.ofChange scaleThereSpec)) scaleThereCard

/-- THE SECOND FORM's CARD OF 'spykeep1.FracBack'. -/
def fracBackUptoCard : Claim7 := { stood := { row := fracBackUptoRow, standIns := [], harness := (true, "8ba809cf9c7a61ed7d1919ec5a84c6d9e1162a8f5d5ae74524335cf51ac2b232"), looks := true }, kinds := [], alts := [], laidByText := true, laidKinds := [.data, .data, .data], laidTests := true, laidLooks := .later }
def FracBackUptoCardSaid : Prop := Claim7.holds Tryd.pinned (.plain (OpenSpec.upto fracBackSpec)) fracBackUptoCard

/-- THE SECOND FORM's CARD OF 'spykeep1.ScaleThere'. -/
def scaleThereUptoCard : Claim7 := { stood := { row := scaleThereUptoRow, standIns := [], harness := (true, "8ba809cf9c7a61ed7d1919ec5a84c6d9e1162a8f5d5ae74524335cf51ac2b232"), looks := true }, kinds := [], alts := [], laidByText := true, laidKinds := [.data, .data, .data, .sentinel, .sentinel], laidTests := true, laidLooks := .later }
def ScaleThereUptoCardSaid : Prop := Claim7.holds Tryd.pinned (.plain (OpenSpec.upto scaleThereSpec)) scaleThereUptoCard
end Rows
end Go.Proofs.YtocheeocnbfbiaaDoor
