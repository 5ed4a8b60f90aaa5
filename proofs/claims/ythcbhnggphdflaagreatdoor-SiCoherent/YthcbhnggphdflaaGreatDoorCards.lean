/-
  DERIVED. GIVEN WITH THE SEED: THE CARDS: each row of YthcbhnggphdflaaGreatDoorRows.lean that lists a variable, with what it lists TIED to the program's text (the seventh form; the later family's looks); each row that meets fmt, with fmt's text TOLD by the authors' own Lean function (tested against real Go, not proved from fmt's source: count such statements apart). THE CARD IS WHAT COUNTS. Prove the row's statement (the work); the ties are given (YthcbhnggphdflaaGreatDoorTie.lean); close each card by the builder's one call (the guide's Derived/Test/ToyasCard.lean, 'card_holds'). Laid BY PROGRAM, IN A SANDBOX (cutbox-door.mjs). By AI agents, Wed Nov 11 2026. No macro, syntax, notation, axiom, sorry.
-/
import Derived.Test.YthcbhnggphdflaaGreatDoorRows
import GoSem.ClaimSeven
namespace Go.Proofs.YthcbhnggphdflaaGreatDoor
namespace Rows

/-- THE TIED CARD OF 'cubitlaw10.SiStands'. -/
def siStandsCard : Claim7 := { stood := { row := siStandsRow, standIns := [], harness := (true, "1ec1496db53d4a337588ed1d23341c58dab09feb40925a420bef705910a276e5"), looks := false }, kinds := [], alts := [], laidByText := true, laidKinds := [.data, .data, .data], laidTests := true, laidLooks := .later }
def SiStandsCardSaid : Prop := Claim7.holds Tryz.pinned (.plain (OpenSpec.ofChange siStandsSpec)) siStandsCard

/-- THE TIED CARD OF 'cubitlaw10.SiFinds'. -/
def siFindsCard : Claim7 := { stood := { row := siFindsRow, standIns := [], harness := (true, "1ec1496db53d4a337588ed1d23341c58dab09feb40925a420bef705910a276e5"), looks := false }, kinds := [], alts := [], laidByText := true, laidKinds := [.data, .data, .data], laidTests := true, laidLooks := .later }
def SiFindsCardSaid : Prop := Claim7.holds Tryz.pinned (.plain (OpenSpec.ofChange siFindsSpec)) siFindsCard

/-- THE TIED CARD OF 'cubitlaw10.SiMade'. -/
def siMadeCard : Claim7 := { stood := { row := siMadeRow, standIns := [], harness := (true, "1ec1496db53d4a337588ed1d23341c58dab09feb40925a420bef705910a276e5"), looks := false }, kinds := [], alts := [], laidByText := true, laidKinds := [.data, .data, .data], laidTests := true, laidLooks := .later }
def SiMadeCardSaid : Prop := Claim7.holds Tryz.pinned (.plain (OpenSpec.ofChange siMadeSpec)) siMadeCard

/-- THE TIED CARD OF 'cubitlaw10.SiCoherent'. -/
def siCoherentCard : Claim7 := { stood := { row := siCoherentRow, standIns := [], harness := (true, "1ec1496db53d4a337588ed1d23341c58dab09feb40925a420bef705910a276e5"), looks := false }, kinds := [], alts := [], laidByText := true, laidKinds := [.data, .data, .data], laidTests := true, laidLooks := .later }
def SiCoherentCardSaid : Prop := Claim7.holds Tryz.pinned (.plain (OpenSpec.ofChange siCoherentSpec)) siCoherentCard

/-- THE TIED CARD OF 'cubitlaw10.SiRelations'. -/
def siRelationsCard : Claim7 := { stood := { row := siRelationsRow, standIns := [], harness := (true, "1ec1496db53d4a337588ed1d23341c58dab09feb40925a420bef705910a276e5"), looks := false }, kinds := [], alts := [], laidByText := true, laidKinds := [.data, .data, .data], laidTests := true, laidLooks := .later }
def SiRelationsCardSaid : Prop := Claim7.holds Tryz.pinned (.plain (OpenSpec.ofChange siRelationsSpec)) siRelationsCard

/-- THE SECOND FORM's CARD OF 'cubitlaw10.SiStands'. -/
def siStandsUptoCard : Claim7 := { stood := { row := siStandsUptoRow, standIns := [], harness := (true, "1ec1496db53d4a337588ed1d23341c58dab09feb40925a420bef705910a276e5"), looks := false }, kinds := [], alts := [], laidByText := true, laidKinds := [.data, .data, .data], laidTests := true, laidLooks := .later }
def SiStandsUptoCardSaid : Prop := Claim7.holds Tryz.pinned (.plain (OpenSpec.upto siStandsSpec)) siStandsUptoCard

/-- THE SECOND FORM's CARD OF 'cubitlaw10.SiFinds'. -/
def siFindsUptoCard : Claim7 := { stood := { row := siFindsUptoRow, standIns := [], harness := (true, "1ec1496db53d4a337588ed1d23341c58dab09feb40925a420bef705910a276e5"), looks := false }, kinds := [], alts := [], laidByText := true, laidKinds := [.data, .data, .data], laidTests := true, laidLooks := .later }
def SiFindsUptoCardSaid : Prop := Claim7.holds Tryz.pinned (.plain (OpenSpec.upto siFindsSpec)) siFindsUptoCard

/-- THE SECOND FORM's CARD OF 'cubitlaw10.SiMade'. -/
def siMadeUptoCard : Claim7 := { stood := { row := siMadeUptoRow, standIns := [], harness := (true, "1ec1496db53d4a337588ed1d23341c58dab09feb40925a420bef705910a276e5"), looks := false }, kinds := [], alts := [], laidByText := true, laidKinds := [.data, .data, .data], laidTests := true, laidLooks := .later }
def SiMadeUptoCardSaid : Prop := Claim7.holds Tryz.pinned (.plain (OpenSpec.upto siMadeSpec)) siMadeUptoCard

/-- THE SECOND FORM's CARD OF 'cubitlaw10.SiCoherent'. -/
def siCoherentUptoCard : Claim7 := { stood := { row := siCoherentUptoRow, standIns := [], harness := (true, "1ec1496db53d4a337588ed1d23341c58dab09feb40925a420bef705910a276e5"), looks := false }, kinds := [], alts := [], laidByText := true, laidKinds := [.data, .data, .data], laidTests := true, laidLooks := .later }
def SiCoherentUptoCardSaid : Prop := Claim7.holds Tryz.pinned (.plain (OpenSpec.upto siCoherentSpec)) siCoherentUptoCard

/-- THE SECOND FORM's CARD OF 'cubitlaw10.SiRelations'. -/
def siRelationsUptoCard : Claim7 := { stood := { row := siRelationsUptoRow, standIns := [], harness := (true, "1ec1496db53d4a337588ed1d23341c58dab09feb40925a420bef705910a276e5"), looks := false }, kinds := [], alts := [], laidByText := true, laidKinds := [.data, .data, .data], laidTests := true, laidLooks := .later }
def SiRelationsUptoCardSaid : Prop := Claim7.holds Tryz.pinned (.plain (OpenSpec.upto siRelationsSpec)) siRelationsUptoCard
end Rows
end Go.Proofs.YthcbhnggphdflaaGreatDoor
