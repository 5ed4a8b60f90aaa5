/-
  DERIVED. GIVEN WITH THE SEED: THE CARDS: each row of YtliadckofhblnaaGreatDoorRows.lean that lists a variable, with what it lists TIED to the program's text (the seventh form; the later family's looks); each row that meets fmt, with fmt's text TOLD by the authors' own Lean function (tested against real Go, not proved from fmt's source: count such statements apart). THE CARD IS WHAT COUNTS. Prove the row's statement (the work); the ties are given (YtliadckofhblnaaGreatDoorTie.lean); close each card by the builder's one call (the guide's Derived/Test/ToyasCard.lean, 'card_holds'). Laid BY PROGRAM, IN A SANDBOX (cutbox-door.mjs). By AI agents, Wed Nov 11 2026. No macro, syntax, notation, axiom, sorry.
-/
import Derived.Test.YtliadckofhblnaaGreatDoorRows
import GoSem.ClaimSeven
namespace Go.Proofs.YtliadckofhblnaaGreatDoor
namespace Rows

/-- THE TIED CARD OF 'cubitlaw11.TradStands'. -/
def tradStandsCard : Claim7 := { stood := { row := tradStandsRow, standIns := [], harness := (true, "eddc5690bf6470d7332600122156af93df28d0c6ec49115f37a6c5da40d26218"), looks := false }, kinds := [], alts := [], laidByText := true, laidKinds := [.data, .data, .data], laidTests := true, laidLooks := .later }
def TradStandsCardSaid : Prop := Claim7.holds Tryz.pinned (.plain (OpenSpec.ofChange tradStandsSpec)) tradStandsCard

/-- THE TIED CARD OF 'cubitlaw11.TradFinds'. -/
def tradFindsCard : Claim7 := { stood := { row := tradFindsRow, standIns := [], harness := (true, "eddc5690bf6470d7332600122156af93df28d0c6ec49115f37a6c5da40d26218"), looks := false }, kinds := [], alts := [], laidByText := true, laidKinds := [.data, .data, .data], laidTests := true, laidLooks := .later }
def TradFindsCardSaid : Prop := Claim7.holds Tryz.pinned (.plain (OpenSpec.ofChange tradFindsSpec)) tradFindsCard

/-- THE TIED CARD OF 'cubitlaw11.TradMultiples'. -/
def tradMultiplesCard : Claim7 := { stood := { row := tradMultiplesRow, standIns := [], harness := (true, "eddc5690bf6470d7332600122156af93df28d0c6ec49115f37a6c5da40d26218"), looks := false }, kinds := [], alts := [], laidByText := true, laidKinds := [.data, .data, .data], laidTests := true, laidLooks := .later }
def TradMultiplesCardSaid : Prop := Claim7.holds Tryz.pinned (.plain (OpenSpec.ofChange tradMultiplesSpec)) tradMultiplesCard

/-- THE TIED CARD OF 'cubitlaw12.TempsStands'. -/
def tempsStandsCard : Claim7 := { stood := { row := tempsStandsRow, standIns := [], harness := (true, "eddc5690bf6470d7332600122156af93df28d0c6ec49115f37a6c5da40d26218"), looks := false }, kinds := [], alts := [], laidByText := true, laidKinds := [.data, .data, .data], laidTests := true, laidLooks := .later }
def TempsStandsCardSaid : Prop := Claim7.holds Tryz.pinned (.plain (OpenSpec.ofChange tempsStandsSpec)) tempsStandsCard

/-- THE TIED CARD OF 'cubitlaw12.TempsFinds'. -/
def tempsFindsCard : Claim7 := { stood := { row := tempsFindsRow, standIns := [], harness := (true, "eddc5690bf6470d7332600122156af93df28d0c6ec49115f37a6c5da40d26218"), looks := false }, kinds := [], alts := [], laidByText := true, laidKinds := [.data, .data, .data], laidTests := true, laidLooks := .later }
def TempsFindsCardSaid : Prop := Claim7.holds Tryz.pinned (.plain (OpenSpec.ofChange tempsFindsSpec)) tempsFindsCard

/-- THE TIED CARD OF 'cubitlaw13.NatureStands'. -/
def natureStandsCard : Claim7 := { stood := { row := natureStandsRow, standIns := [], harness := (true, "eddc5690bf6470d7332600122156af93df28d0c6ec49115f37a6c5da40d26218"), looks := false }, kinds := [], alts := [], laidByText := true, laidKinds := [.data, .data, .data, .listed, .data], laidTests := true, laidLooks := .later }
def NatureStandsCardSaid : Prop := Claim7.holds Tryz.pinned (.plain (OpenSpec.ofChange natureStandsSpec)) natureStandsCard

/-- THE TIED CARD OF 'cubitlaw13.NatureFinds'. -/
def natureFindsCard : Claim7 := { stood := { row := natureFindsRow, standIns := [], harness := (true, "eddc5690bf6470d7332600122156af93df28d0c6ec49115f37a6c5da40d26218"), looks := false }, kinds := [], alts := [], laidByText := true, laidKinds := [.data, .data, .data, .listed, .data], laidTests := true, laidLooks := .later }
def NatureFindsCardSaid : Prop := Claim7.holds Tryz.pinned (.plain (OpenSpec.ofChange natureFindsSpec)) natureFindsCard

/-- THE TIED CARD OF 'cubitlaw13.NatureMade'. -/
def natureMadeCard : Claim7 := { stood := { row := natureMadeRow, standIns := [], harness := (true, "eddc5690bf6470d7332600122156af93df28d0c6ec49115f37a6c5da40d26218"), looks := false }, kinds := [], alts := [], laidByText := true, laidKinds := [.data, .data, .data, .listed, .data], laidTests := true, laidLooks := .later }
def NatureMadeCardSaid : Prop := Claim7.holds Tryz.pinned (.plain (OpenSpec.ofChange natureMadeSpec)) natureMadeCard

/-- THE SECOND FORM's CARD OF 'cubitlaw11.TradStands'. -/
def tradStandsUptoCard : Claim7 := { stood := { row := tradStandsUptoRow, standIns := [], harness := (true, "eddc5690bf6470d7332600122156af93df28d0c6ec49115f37a6c5da40d26218"), looks := false }, kinds := [], alts := [], laidByText := true, laidKinds := [.data, .data, .data], laidTests := true, laidLooks := .later }
def TradStandsUptoCardSaid : Prop := Claim7.holds Tryz.pinned (.plain (OpenSpec.upto tradStandsSpec)) tradStandsUptoCard

/-- THE SECOND FORM's CARD OF 'cubitlaw11.TradFinds'. -/
def tradFindsUptoCard : Claim7 := { stood := { row := tradFindsUptoRow, standIns := [], harness := (true, "eddc5690bf6470d7332600122156af93df28d0c6ec49115f37a6c5da40d26218"), looks := false }, kinds := [], alts := [], laidByText := true, laidKinds := [.data, .data, .data], laidTests := true, laidLooks := .later }
def TradFindsUptoCardSaid : Prop := Claim7.holds Tryz.pinned (.plain (OpenSpec.upto tradFindsSpec)) tradFindsUptoCard

/-- THE SECOND FORM's CARD OF 'cubitlaw11.TradMultiples'. -/
def tradMultiplesUptoCard : Claim7 := { stood := { row := tradMultiplesUptoRow, standIns := [], harness := (true, "eddc5690bf6470d7332600122156af93df28d0c6ec49115f37a6c5da40d26218"), looks := false }, kinds := [], alts := [], laidByText := true, laidKinds := [.data, .data, .data], laidTests := true, laidLooks := .later }
def TradMultiplesUptoCardSaid : Prop := Claim7.holds Tryz.pinned (.plain (OpenSpec.upto tradMultiplesSpec)) tradMultiplesUptoCard

/-- THE SECOND FORM's CARD OF 'cubitlaw12.TempsStands'. -/
def tempsStandsUptoCard : Claim7 := { stood := { row := tempsStandsUptoRow, standIns := [], harness := (true, "eddc5690bf6470d7332600122156af93df28d0c6ec49115f37a6c5da40d26218"), looks := false }, kinds := [], alts := [], laidByText := true, laidKinds := [.data, .data, .data], laidTests := true, laidLooks := .later }
def TempsStandsUptoCardSaid : Prop := Claim7.holds Tryz.pinned (.plain (OpenSpec.upto tempsStandsSpec)) tempsStandsUptoCard

/-- THE SECOND FORM's CARD OF 'cubitlaw12.TempsFinds'. -/
def tempsFindsUptoCard : Claim7 := { stood := { row := tempsFindsUptoRow, standIns := [], harness := (true, "eddc5690bf6470d7332600122156af93df28d0c6ec49115f37a6c5da40d26218"), looks := false }, kinds := [], alts := [], laidByText := true, laidKinds := [.data, .data, .data], laidTests := true, laidLooks := .later }
def TempsFindsUptoCardSaid : Prop := Claim7.holds Tryz.pinned (.plain (OpenSpec.upto tempsFindsSpec)) tempsFindsUptoCard

/-- THE SECOND FORM's CARD OF 'cubitlaw13.NatureStands'. -/
def natureStandsUptoCard : Claim7 := { stood := { row := natureStandsUptoRow, standIns := [], harness := (true, "eddc5690bf6470d7332600122156af93df28d0c6ec49115f37a6c5da40d26218"), looks := false }, kinds := [], alts := [], laidByText := true, laidKinds := [.data, .data, .data, .listed, .data], laidTests := true, laidLooks := .later }
def NatureStandsUptoCardSaid : Prop := Claim7.holds Tryz.pinned (.plain (OpenSpec.upto natureStandsSpec)) natureStandsUptoCard

/-- THE SECOND FORM's CARD OF 'cubitlaw13.NatureFinds'. -/
def natureFindsUptoCard : Claim7 := { stood := { row := natureFindsUptoRow, standIns := [], harness := (true, "eddc5690bf6470d7332600122156af93df28d0c6ec49115f37a6c5da40d26218"), looks := false }, kinds := [], alts := [], laidByText := true, laidKinds := [.data, .data, .data, .listed, .data], laidTests := true, laidLooks := .later }
def NatureFindsUptoCardSaid : Prop := Claim7.holds Tryz.pinned (.plain (OpenSpec.upto natureFindsSpec)) natureFindsUptoCard

/-- THE SECOND FORM's CARD OF 'cubitlaw13.NatureMade'. -/
def natureMadeUptoCard : Claim7 := { stood := { row := natureMadeUptoRow, standIns := [], harness := (true, "eddc5690bf6470d7332600122156af93df28d0c6ec49115f37a6c5da40d26218"), looks := false }, kinds := [], alts := [], laidByText := true, laidKinds := [.data, .data, .data, .listed, .data], laidTests := true, laidLooks := .later }
def NatureMadeUptoCardSaid : Prop := Claim7.holds Tryz.pinned (.plain (OpenSpec.upto natureMadeSpec)) natureMadeUptoCard
end Rows
end Go.Proofs.YtliadckofhblnaaGreatDoor
