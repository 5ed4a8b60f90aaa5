/-
  DERIVED. GIVEN WITH THE SEED: THE CARDS: each row of YtimihoonnglniaaGreatDoorRows.lean that lists a variable, with what it lists TIED to the program's text (the seventh form; the later family's looks); each row that meets fmt, with fmt's text TOLD by the authors' own Lean function (tested against real Go, not proved from fmt's source: count such statements apart). THE CARD IS WHAT COUNTS. Prove the row's statement (the work); the ties are given (YtimihoonnglniaaGreatDoorTie.lean); close each card by the builder's one call (the guide's Derived/Test/ToyasCard.lean, 'card_holds'). Laid BY PROGRAM, IN A SANDBOX (cutbox-door.mjs). By AI agents, Wed Nov 11 2026. No macro, syntax, notation, axiom, sorry.
-/
import Derived.Test.YtimihoonnglniaaGreatDoorRows
import GoSem.ClaimSeven
namespace Go.Proofs.YtimihoonnglniaaGreatDoor
namespace Rows

/-- THE TIED CARD OF 'cubitlaw12.TempsTurns'. -/
def tempsTurnsCard : Claim7 := { stood := { row := tempsTurnsRow, standIns := [], harness := (true, "e2b80402523b70d9c3dec3b95d849e13fc93af7c5cb2106fbc6f84dbe0aa171a"), looks := false }, kinds := [], alts := [], laidByText := true, laidKinds := [.data, .data, .data], laidTests := true, laidLooks := .later }
def TempsTurnsCardSaid : Prop := Claim7.holds Tryz.pinned (.plain (OpenSpec.ofChange tempsTurnsSpec)) tempsTurnsCard

/-- THE TIED CARD OF 'cubitlaw12.TempsGroup'. -/
def tempsGroupCard : Claim7 := { stood := { row := tempsGroupRow, standIns := [], harness := (true, "e2b80402523b70d9c3dec3b95d849e13fc93af7c5cb2106fbc6f84dbe0aa171a"), looks := false }, kinds := [], alts := [], laidByText := true, laidKinds := [.data, .data, .data], laidTests := true, laidLooks := .later }
def TempsGroupCardSaid : Prop := Claim7.holds Tryz.pinned (.plain (OpenSpec.ofChange tempsGroupSpec)) tempsGroupCard

/-- THE TIED CARD OF 'cubitlaw12.TempsSteps'. -/
def tempsStepsCard : Claim7 := { stood := { row := tempsStepsRow, standIns := [], harness := (true, "e2b80402523b70d9c3dec3b95d849e13fc93af7c5cb2106fbc6f84dbe0aa171a"), looks := false }, kinds := [], alts := [], laidByText := true, laidKinds := [.data, .data, .data], laidTests := true, laidLooks := .later }
def TempsStepsCardSaid : Prop := Claim7.holds Tryz.pinned (.plain (OpenSpec.ofChange tempsStepsSpec)) tempsStepsCard

/-- THE SECOND FORM's CARD OF 'cubitlaw12.TempsTurns'. -/
def tempsTurnsUptoCard : Claim7 := { stood := { row := tempsTurnsUptoRow, standIns := [], harness := (true, "e2b80402523b70d9c3dec3b95d849e13fc93af7c5cb2106fbc6f84dbe0aa171a"), looks := false }, kinds := [], alts := [], laidByText := true, laidKinds := [.data, .data, .data], laidTests := true, laidLooks := .later }
def TempsTurnsUptoCardSaid : Prop := Claim7.holds Tryz.pinned (.plain (OpenSpec.upto tempsTurnsSpec)) tempsTurnsUptoCard

/-- THE SECOND FORM's CARD OF 'cubitlaw12.TempsGroup'. -/
def tempsGroupUptoCard : Claim7 := { stood := { row := tempsGroupUptoRow, standIns := [], harness := (true, "e2b80402523b70d9c3dec3b95d849e13fc93af7c5cb2106fbc6f84dbe0aa171a"), looks := false }, kinds := [], alts := [], laidByText := true, laidKinds := [.data, .data, .data], laidTests := true, laidLooks := .later }
def TempsGroupUptoCardSaid : Prop := Claim7.holds Tryz.pinned (.plain (OpenSpec.upto tempsGroupSpec)) tempsGroupUptoCard

/-- THE SECOND FORM's CARD OF 'cubitlaw12.TempsSteps'. -/
def tempsStepsUptoCard : Claim7 := { stood := { row := tempsStepsUptoRow, standIns := [], harness := (true, "e2b80402523b70d9c3dec3b95d849e13fc93af7c5cb2106fbc6f84dbe0aa171a"), looks := false }, kinds := [], alts := [], laidByText := true, laidKinds := [.data, .data, .data], laidTests := true, laidLooks := .later }
def TempsStepsUptoCardSaid : Prop := Claim7.holds Tryz.pinned (.plain (OpenSpec.upto tempsStepsSpec)) tempsStepsUptoCard
end Rows
end Go.Proofs.YtimihoonnglniaaGreatDoor
