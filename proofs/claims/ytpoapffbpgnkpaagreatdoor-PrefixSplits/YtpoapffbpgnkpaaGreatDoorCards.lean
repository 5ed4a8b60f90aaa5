/-
  DERIVED. GIVEN WITH THE SEED: THE CARDS: each row of YtpoapffbpgnkpaaGreatDoorRows.lean that lists a variable, with what it lists TIED to the program's text (the seventh form; the later family's looks); each row that meets fmt, with fmt's text TOLD by the authors' own Lean function (tested against real Go, not proved from fmt's source: count such statements apart). THE CARD IS WHAT COUNTS. Prove the row's statement (the work); the ties are given (YtpoapffbpgnkpaaGreatDoorTie.lean); close each card by the builder's one call (the guide's Derived/Test/ToyasCard.lean, 'card_holds'). Laid BY PROGRAM, IN A SANDBOX (cutbox-door.mjs). By AI agents, Wed Nov 11 2026. No macro, syntax, notation, axiom, sorry.
-/
import Derived.Test.YtpoapffbpgnkpaaGreatDoorRows
import GoSem.ClaimSeven
namespace Go.Proofs.YtpoapffbpgnkpaaGreatDoor
namespace Rows

/-- THE TIED CARD OF 'cubitlaw07.PrefixSplits'. -/
def prefixSplitsCard : Claim7 := { stood := { row := prefixSplitsRow, standIns := [], harness := (true, "ae789bce15d4ccaface4357a9f250b210f05ad093f74751f3c02c45f7d804a84"), looks := false }, kinds := [], alts := [], laidByText := true, laidKinds := [.data, .data, .data], laidTests := true, laidLooks := .later }
def PrefixSplitsCardSaid : Prop := Claim7.holds Tryz.pinned (.plain (OpenSpec.ofChange prefixSplitsSpec)) prefixSplitsCard

/-- THE TIED CARD OF 'cubitlaw07.PrefixBest'. -/
def prefixBestCard : Claim7 := { stood := { row := prefixBestRow, standIns := [], harness := (true, "ae789bce15d4ccaface4357a9f250b210f05ad093f74751f3c02c45f7d804a84"), looks := false }, kinds := [], alts := [], laidByText := true, laidKinds := [.data, .data, .data], laidTests := true, laidLooks := .later }
def PrefixBestCardSaid : Prop := Claim7.holds Tryz.pinned (.plain (OpenSpec.ofChange prefixBestSpec)) prefixBestCard

/-- THE TIED CARD OF 'cubitlaw07.PrefixReads'. -/
def prefixReadsCard : Claim7 := { stood := { row := prefixReadsRow, standIns := [], harness := (true, "ae789bce15d4ccaface4357a9f250b210f05ad093f74751f3c02c45f7d804a84"), looks := false }, kinds := [], alts := [], laidByText := true, laidKinds := [.data, .data, .data], laidTests := true, laidLooks := .later }
def PrefixReadsCardSaid : Prop := Claim7.holds Tryz.pinned (.plain (OpenSpec.ofChange prefixReadsSpec)) prefixReadsCard

/-- THE TIED CARD OF 'cubitlaw07.PrefixScales'. -/
def prefixScalesCard : Claim7 := { stood := { row := prefixScalesRow, standIns := [], harness := (true, "ae789bce15d4ccaface4357a9f250b210f05ad093f74751f3c02c45f7d804a84"), looks := false }, kinds := [], alts := [], laidByText := true, laidKinds := [.data, .data, .data], laidTests := true, laidLooks := .later }
def PrefixScalesCardSaid : Prop := Claim7.holds Tryz.pinned (.plain (OpenSpec.ofChange prefixScalesSpec)) prefixScalesCard

/-- THE SECOND FORM's CARD OF 'cubitlaw07.PrefixSplits'. -/
def prefixSplitsUptoCard : Claim7 := { stood := { row := prefixSplitsUptoRow, standIns := [], harness := (true, "ae789bce15d4ccaface4357a9f250b210f05ad093f74751f3c02c45f7d804a84"), looks := false }, kinds := [], alts := [], laidByText := true, laidKinds := [.data, .data, .data], laidTests := true, laidLooks := .later }
def PrefixSplitsUptoCardSaid : Prop := Claim7.holds Tryz.pinned (.plain (OpenSpec.upto prefixSplitsSpec)) prefixSplitsUptoCard

/-- THE SECOND FORM's CARD OF 'cubitlaw07.PrefixBest'. -/
def prefixBestUptoCard : Claim7 := { stood := { row := prefixBestUptoRow, standIns := [], harness := (true, "ae789bce15d4ccaface4357a9f250b210f05ad093f74751f3c02c45f7d804a84"), looks := false }, kinds := [], alts := [], laidByText := true, laidKinds := [.data, .data, .data], laidTests := true, laidLooks := .later }
def PrefixBestUptoCardSaid : Prop := Claim7.holds Tryz.pinned (.plain (OpenSpec.upto prefixBestSpec)) prefixBestUptoCard

/-- THE SECOND FORM's CARD OF 'cubitlaw07.PrefixReads'. -/
def prefixReadsUptoCard : Claim7 := { stood := { row := prefixReadsUptoRow, standIns := [], harness := (true, "ae789bce15d4ccaface4357a9f250b210f05ad093f74751f3c02c45f7d804a84"), looks := false }, kinds := [], alts := [], laidByText := true, laidKinds := [.data, .data, .data], laidTests := true, laidLooks := .later }
def PrefixReadsUptoCardSaid : Prop := Claim7.holds Tryz.pinned (.plain (OpenSpec.upto prefixReadsSpec)) prefixReadsUptoCard

/-- THE SECOND FORM's CARD OF 'cubitlaw07.PrefixScales'. -/
def prefixScalesUptoCard : Claim7 := { stood := { row := prefixScalesUptoRow, standIns := [], harness := (true, "ae789bce15d4ccaface4357a9f250b210f05ad093f74751f3c02c45f7d804a84"), looks := false }, kinds := [], alts := [], laidByText := true, laidKinds := [.data, .data, .data], laidTests := true, laidLooks := .later }
def PrefixScalesUptoCardSaid : Prop := Claim7.holds Tryz.pinned (.plain (OpenSpec.upto prefixScalesSpec)) prefixScalesUptoCard
end Rows
end Go.Proofs.YtpoapffbpgnkpaaGreatDoor
