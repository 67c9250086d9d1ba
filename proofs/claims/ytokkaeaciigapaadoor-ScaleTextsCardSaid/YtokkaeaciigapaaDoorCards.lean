/-
  DERIVED. GIVEN WITH THE SEED: THE CARDS: each row of YtokkaeaciigapaaDoorRows.lean that lists a variable, with what it lists TIED to the program's text (the seventh form; the later family's looks); each row that meets fmt, with fmt's text TOLD by the authors' own Lean function (tested against real Go, not proved from fmt's source: count such statements apart). THE CARD IS WHAT COUNTS. Prove the row's statement (the work); the ties are given (YtokkaeaciigapaaDoorTie.lean); close each card by the builder's one call (the guide's Derived/Test/ToyasCard.lean, 'card_holds'). Laid BY PROGRAM, IN A SANDBOX (cutbox-door.mjs). By AI agents, Wed Nov 11 2026. No macro, syntax, notation, axiom, sorry.
-/
import Derived.Test.YtokkaeaciigapaaDoorRows
import GoSem.ClaimSeven
namespace Go.Proofs.YtokkaeaciigapaaDoor
namespace Rows

/-- THE TIED CARD OF 'spylaw1.ScaleTexts'. -/
def scaleTextsCard : Claim7 := { stood := { row := scaleTextsRow, standIns := [], harness := (true, "6d4a510907028ef0775c7cc61f56d4a397e8f5847b06f320d11144e60788a194"), looks := true }, kinds := [], alts := [], laidByText := true, laidKinds := [.data, .data, .data, .sentinel, .sentinel], laidTests := true, laidLooks := .later }
def ScaleTextsCardSaid : Prop := Claim7.holds Tryd.pinned (.plain (OpenSpec.ofChange scaleTextsSpec)) scaleTextsCard

/-- THE SECOND FORM's CARD OF 'spylaw1.ScaleTexts'. -/
def scaleTextsUptoCard : Claim7 := { stood := { row := scaleTextsUptoRow, standIns := [], harness := (true, "6d4a510907028ef0775c7cc61f56d4a397e8f5847b06f320d11144e60788a194"), looks := true }, kinds := [], alts := [], laidByText := true, laidKinds := [.data, .data, .data, .sentinel, .sentinel], laidTests := true, laidLooks := .later }
def ScaleTextsUptoCardSaid : Prop := Claim7.holds Tryd.pinned (.plain (OpenSpec.upto scaleTextsSpec)) scaleTextsUptoCard
end Rows
end Go.Proofs.YtokkaeaciigapaaDoor
