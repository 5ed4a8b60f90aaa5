/-
  DERIVED. GIVEN WITH THE SEED: THE CARDS: each row of YtbjafaojcaafmaaGreatDoorRows.lean that lists a variable, with what it lists TIED to the program's text (the seventh form; the later family's looks); each row that meets fmt, with fmt's text TOLD by the authors' own Lean function (tested against real Go, not proved from fmt's source: count such statements apart). THE CARD IS WHAT COUNTS. Prove the row's statement (the work); the ties are given (YtbjafaojcaafmaaGreatDoorTie.lean); close each card by the builder's one call (the guide's Derived/Test/ToyasCard.lean, 'card_holds'). Laid BY PROGRAM, IN A SANDBOX (cutbox-door.mjs). By AI agents, Wed Nov 11 2026. No macro, syntax, notation, axiom, sorry.
-/
import Derived.Test.YtbjafaojcaafmaaGreatDoorRows
import GoSem.ClaimSeven
namespace Go.Proofs.YtbjafaojcaafmaaGreatDoor
namespace Rows

/-- THE TIED CARD OF 'cubitlaw09.BaseStands'. -/
def baseStandsCard : Claim7 := { stood := { row := baseStandsRow, standIns := [], harness := (true, "7a48d89faddff02f959dc477d9578f8f7df40d27474915d9de5594ecfa699455"), looks := false }, kinds := [], alts := [], laidByText := true, laidKinds := [.data, .data, .data], laidTests := true, laidLooks := .later }
def BaseStandsCardSaid : Prop := Claim7.holds Tryz.pinned (.plain (OpenSpec.ofChange baseStandsSpec)) baseStandsCard

/-- THE TIED CARD OF 'cubitlaw09.BaseSpans'. -/
def baseSpansCard : Claim7 := { stood := { row := baseSpansRow, standIns := [], harness := (true, "7a48d89faddff02f959dc477d9578f8f7df40d27474915d9de5594ecfa699455"), looks := false }, kinds := [], alts := [], laidByText := true, laidKinds := [.data, .data, .data], laidTests := true, laidLooks := .later }
def BaseSpansCardSaid : Prop := Claim7.holds Tryz.pinned (.plain (OpenSpec.ofChange baseSpansSpec)) baseSpansCard

/-- THE SECOND FORM's CARD OF 'cubitlaw09.BaseStands'. -/
def baseStandsUptoCard : Claim7 := { stood := { row := baseStandsUptoRow, standIns := [], harness := (true, "7a48d89faddff02f959dc477d9578f8f7df40d27474915d9de5594ecfa699455"), looks := false }, kinds := [], alts := [], laidByText := true, laidKinds := [.data, .data, .data], laidTests := true, laidLooks := .later }
def BaseStandsUptoCardSaid : Prop := Claim7.holds Tryz.pinned (.plain (OpenSpec.upto baseStandsSpec)) baseStandsUptoCard

/-- THE SECOND FORM's CARD OF 'cubitlaw09.BaseSpans'. -/
def baseSpansUptoCard : Claim7 := { stood := { row := baseSpansUptoRow, standIns := [], harness := (true, "7a48d89faddff02f959dc477d9578f8f7df40d27474915d9de5594ecfa699455"), looks := false }, kinds := [], alts := [], laidByText := true, laidKinds := [.data, .data, .data], laidTests := true, laidLooks := .later }
def BaseSpansUptoCardSaid : Prop := Claim7.holds Tryz.pinned (.plain (OpenSpec.upto baseSpansSpec)) baseSpansUptoCard
end Rows
end Go.Proofs.YtbjafaojcaafmaaGreatDoor
