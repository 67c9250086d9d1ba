/-
  DERIVED. GIVEN WITH THE SEED: THE CARDS: each row of YtbnlpcmnkcaemaaDoorRows.lean that lists a variable, with what it lists TIED to the program's text (the seventh form; the later family's looks); each row that meets fmt, with fmt's text TOLD by the authors' own Lean function (tested against real Go, not proved from fmt's source: count such statements apart). THE CARD IS WHAT COUNTS. Prove the row's statement (the work); the ties are given (YtbnlpcmnkcaemaaDoorTie.lean); close each card by the builder's one call (the guide's Derived/Test/ToyasCard.lean, 'card_holds'). Laid BY PROGRAM, IN A SANDBOX (cutbox-door.mjs). By AI agents, Wed Nov 11 2026. No macro, syntax, notation, axiom, sorry.
-/
import Derived.Test.YtbnlpcmnkcaemaaDoorRows
import GoSem.ClaimSeven
namespace Go.Proofs.YtbnlpcmnkcaemaaDoor
namespace Rows

/-- THE TIED CARD OF 'spylaw2.PropChecks'. -/
def propChecksCard : Claim7 := { stood := { row := propChecksRow, standIns := [], harness := (true, "9f6b7bd8b628820140ecbae71e20594cc1423d0342b5864df585c0e1bee7a9f7"), looks := true }, kinds := [], alts := [], laidByText := true, laidKinds := [.data, .data, .data], laidTests := true, laidLooks := .later }
def PropChecksCardSaid : Prop := Claim7.holds Tryd.pinned (.plain (OpenSpec.ofChange propChecksSpec)) propChecksCard

/-- THE TIED CARD OF 'spylaw2.PropNights'. -/
def propNightsCard : Claim7 := { stood := { row := propNightsRow, standIns := [], harness := (true, "9f6b7bd8b628820140ecbae71e20594cc1423d0342b5864df585c0e1bee7a9f7"), looks := true }, kinds := [], alts := [], laidByText := true, laidKinds := [.data, .data, .data], laidTests := true, laidLooks := .later }
def PropNightsCardSaid : Prop := Claim7.holds Tryd.pinned (.plain (OpenSpec.ofChange propNightsSpec)) propNightsCard

/-- THE TIED CARD OF 'spylaw2.PropTexts'. -/
def propTextsCard : Claim7 := { stood := { row := propTextsRow, standIns := [], harness := (true, "9f6b7bd8b628820140ecbae71e20594cc1423d0342b5864df585c0e1bee7a9f7"), looks := true }, kinds := [], alts := [], laidByText := true, laidKinds := [.data, .data, .data], laidTests := true, laidLooks := .later }
def PropTextsCardSaid : Prop := Claim7.holds Tryd.pinned (.plain (OpenSpec.ofChange propTextsSpec)) propTextsCard

/-- THE TIED CARD OF 'spylaw2.PropWords'. -/
def propWordsCard : Claim7 := { stood := { row := propWordsRow, standIns := [], harness := (true, "9f6b7bd8b628820140ecbae71e20594cc1423d0342b5864df585c0e1bee7a9f7"), looks := true }, kinds := [], alts := [], laidByText := true, laidKinds := [.data, .data, .data, .sentinel, .sentinel], laidTests := true, laidLooks := .later }
def PropWordsCardSaid : Prop := Claim7.holds Tryd.pinned (.plain (OpenSpec.ofChange propWordsSpec)) propWordsCard

/-- THE TIED CARD OF 'spykeep2.PropFaults'. -/
def propFaultsCard : Claim7 := { stood := { row := propFaultsRow, standIns := [], harness := (true, "9f6b7bd8b628820140ecbae71e20594cc1423d0342b5864df585c0e1bee7a9f7"), looks := true }, kinds := [], alts := [], laidByText := true, laidKinds := [.data, .data, .data, .data, .sentinel, .sentinel, .pinned], laidTests := true, laidLooks := .later }
def PropFaultsCardSaid : Prop := Claim7.holds Tryd.pinned (.plain (OpenSpec.ofChange propFaultsSpec)) propFaultsCard

/-- THE SECOND FORM's CARD OF 'spylaw2.PropChecks'. -/
def propChecksUptoCard : Claim7 := { stood := { row := propChecksUptoRow, standIns := [], harness := (true, "9f6b7bd8b628820140ecbae71e20594cc1423d0342b5864df585c0e1bee7a9f7"), looks := true }, kinds := [], alts := [], laidByText := true, laidKinds := [.data, .data, .data], laidTests := true, laidLooks := .later }
def PropChecksUptoCardSaid : Prop := Claim7.holds Tryd.pinned (.plain (OpenSpec.upto propChecksSpec)) propChecksUptoCard

/-- THE SECOND FORM's CARD OF 'spylaw2.PropNights'. -/
def propNightsUptoCard : Claim7 := { stood := { row := propNightsUptoRow, standIns := [], harness := (true, "9f6b7bd8b628820140ecbae71e20594cc1423d0342b5864df585c0e1bee7a9f7"), looks := true }, kinds := [], alts := [], laidByText := true, laidKinds := [.data, .data, .data], laidTests := true, laidLooks := .later }
def PropNightsUptoCardSaid : Prop := Claim7.holds Tryd.pinned (.plain (OpenSpec.upto propNightsSpec)) propNightsUptoCard

/-- THE SECOND FORM's CARD OF 'spylaw2.PropTexts'. -/
def propTextsUptoCard : Claim7 := { stood := { row := propTextsUptoRow, standIns := [], harness := (true, "9f6b7bd8b628820140ecbae71e20594cc1423d0342b5864df585c0e1bee7a9f7"), looks := true }, kinds := [], alts := [], laidByText := true, laidKinds := [.data, .data, .data], laidTests := true, laidLooks := .later }
def PropTextsUptoCardSaid : Prop := Claim7.holds Tryd.pinned (.plain (OpenSpec.upto propTextsSpec)) propTextsUptoCard

/-- THE SECOND FORM's CARD OF 'spylaw2.PropWords'. -/
def propWordsUptoCard : Claim7 := { stood := { row := propWordsUptoRow, standIns := [], harness := (true, "9f6b7bd8b628820140ecbae71e20594cc1423d0342b5864df585c0e1bee7a9f7"), looks := true }, kinds := [], alts := [], laidByText := true, laidKinds := [.data, .data, .data, .sentinel, .sentinel], laidTests := true, laidLooks := .later }
def PropWordsUptoCardSaid : Prop := Claim7.holds Tryd.pinned (.plain (OpenSpec.upto propWordsSpec)) propWordsUptoCard

/-- THE SECOND FORM's CARD OF 'spykeep2.PropFaults'. -/
def propFaultsUptoCard : Claim7 := { stood := { row := propFaultsUptoRow, standIns := [], harness := (true, "9f6b7bd8b628820140ecbae71e20594cc1423d0342b5864df585c0e1bee7a9f7"), looks := true }, kinds := [], alts := [], laidByText := true, laidKinds := [.data, .data, .data, .data, .sentinel, .sentinel, .pinned], laidTests := true, laidLooks := .later }
def PropFaultsUptoCardSaid : Prop := Claim7.holds Tryd.pinned (.plain (OpenSpec.upto propFaultsSpec)) propFaultsUptoCard
end Rows
end Go.Proofs.YtbnlpcmnkcaemaaDoor
