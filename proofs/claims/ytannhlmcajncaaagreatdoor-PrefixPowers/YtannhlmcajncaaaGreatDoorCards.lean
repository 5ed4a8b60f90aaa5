/-
  DERIVED. GIVEN WITH THE SEED: THE CARDS: each row of YtannhlmcajncaaaGreatDoorRows.lean that lists a variable, with what it lists TIED to the program's text (the seventh form; the later family's looks); each row that meets fmt, with fmt's text TOLD by the authors' own Lean function (tested against real Go, not proved from fmt's source: count such statements apart). THE CARD IS WHAT COUNTS. Prove the row's statement (the work); the ties are given (YtannhlmcajncaaaGreatDoorTie.lean); close each card by the builder's one call (the guide's Derived/Test/ToyasCard.lean, 'card_holds'). Laid BY PROGRAM, IN A SANDBOX (cutbox-door.mjs). By AI agents, Wed Nov 11 2026. No macro, syntax, notation, axiom, sorry.
-/
import Derived.Test.YtannhlmcajncaaaGreatDoorRows
import GoSem.ClaimSeven
namespace Go.Proofs.YtannhlmcajncaaaGreatDoor
namespace Rows

/-- THE TIED CARD OF 'cubitlaw07.PrefixStands'. -/
def prefixStandsCard : Claim7 := { stood := { row := prefixStandsRow, standIns := [], harness := (true, "ba9a91f169c0a26c81148a99694fae895457d9cb2fdd150a15375a245e3ab5d1"), looks := false }, kinds := [], alts := [], laidByText := true, laidKinds := [.data, .data, .data], laidTests := true, laidLooks := .later }
def PrefixStandsCardSaid : Prop := Claim7.holds Tryz.pinned (.plain (OpenSpec.ofChange prefixStandsSpec)) prefixStandsCard

/-- THE TIED CARD OF 'cubitlaw07.PrefixPowers'. -/
def prefixPowersCard : Claim7 := { stood := { row := prefixPowersRow, standIns := [], harness := (true, "ba9a91f169c0a26c81148a99694fae895457d9cb2fdd150a15375a245e3ab5d1"), looks := false }, kinds := [], alts := [], laidByText := true, laidKinds := [.data, .data, .data], laidTests := true, laidLooks := .later }
def PrefixPowersCardSaid : Prop := Claim7.holds Tryz.pinned (.plain (OpenSpec.ofChange prefixPowersSpec)) prefixPowersCard

/-- THE TIED CARD OF 'cubitlaw07.PrefixFinds'. -/
def prefixFindsCard : Claim7 := { stood := { row := prefixFindsRow, standIns := [], harness := (true, "ba9a91f169c0a26c81148a99694fae895457d9cb2fdd150a15375a245e3ab5d1"), looks := false }, kinds := [], alts := [], laidByText := true, laidKinds := [.data, .data, .data], laidTests := true, laidLooks := .later }
def PrefixFindsCardSaid : Prop := Claim7.holds Tryz.pinned (.plain (OpenSpec.ofChange prefixFindsSpec)) prefixFindsCard

/-- THE SECOND FORM's CARD OF 'cubitlaw07.PrefixStands'. -/
def prefixStandsUptoCard : Claim7 := { stood := { row := prefixStandsUptoRow, standIns := [], harness := (true, "ba9a91f169c0a26c81148a99694fae895457d9cb2fdd150a15375a245e3ab5d1"), looks := false }, kinds := [], alts := [], laidByText := true, laidKinds := [.data, .data, .data], laidTests := true, laidLooks := .later }
def PrefixStandsUptoCardSaid : Prop := Claim7.holds Tryz.pinned (.plain (OpenSpec.upto prefixStandsSpec)) prefixStandsUptoCard

/-- THE SECOND FORM's CARD OF 'cubitlaw07.PrefixPowers'. -/
def prefixPowersUptoCard : Claim7 := { stood := { row := prefixPowersUptoRow, standIns := [], harness := (true, "ba9a91f169c0a26c81148a99694fae895457d9cb2fdd150a15375a245e3ab5d1"), looks := false }, kinds := [], alts := [], laidByText := true, laidKinds := [.data, .data, .data], laidTests := true, laidLooks := .later }
def PrefixPowersUptoCardSaid : Prop := Claim7.holds Tryz.pinned (.plain (OpenSpec.upto prefixPowersSpec)) prefixPowersUptoCard

/-- THE SECOND FORM's CARD OF 'cubitlaw07.PrefixFinds'. -/
def prefixFindsUptoCard : Claim7 := { stood := { row := prefixFindsUptoRow, standIns := [], harness := (true, "ba9a91f169c0a26c81148a99694fae895457d9cb2fdd150a15375a245e3ab5d1"), looks := false }, kinds := [], alts := [], laidByText := true, laidKinds := [.data, .data, .data], laidTests := true, laidLooks := .later }
def PrefixFindsUptoCardSaid : Prop := Claim7.holds Tryz.pinned (.plain (OpenSpec.upto prefixFindsSpec)) prefixFindsUptoCard
end Rows
end Go.Proofs.YtannhlmcajncaaaGreatDoor
