/-
  DERIVED. GIVEN WITH THE SEED: THE CARDS: each row of YtiooiacebgojiaaDoorRows.lean that lists a variable, with what it lists TIED to the program's text (the seventh form; the later family's looks); each row that meets fmt, with fmt's text TOLD by the authors' own Lean function (tested against real Go, not proved from fmt's source: count such statements apart). THE CARD IS WHAT COUNTS. Prove the row's statement (the work); the ties are given (YtiooiacebgojiaaDoorTie.lean); close each card by the builder's one call (the guide's Derived/Test/ToyasCard.lean, 'card_holds'). Laid BY PROGRAM, IN A SANDBOX (cutbox-door.mjs). By AI agents, Wed Nov 11 2026. No macro, syntax, notation, axiom, sorry.
-/
import Derived.Test.YtiooiacebgojiaaDoorRows
import GoSem.ClaimSeven
namespace Go.Proofs.YtiooiacebgojiaaDoor
namespace Rows

/-- THE TIED CARD OF 'cubitlaw06.NamesFolds'. -/
def namesFoldsCard : Claim7 := { stood := { row := namesFoldsRow, standIns := [], harness := (true, "76e1c11c94bf5df8f3b6eb767c0f871dcabb9f4d8e5d1473bfe3e4477c5ede6a"), looks := false }, kinds := [], alts := [], laidByText := true, laidKinds := [.data, .pinned], laidTests := true, laidLooks := .later }
def NamesFoldsCardSaid : Prop := Claim7.holds Tryd.pinned (.plain (OpenSpec.ofChange namesFoldsSpec)) namesFoldsCard

/-- THE TIED CARD OF 'cubitlaw06.NamesCuts'. -/
def namesCutsCard : Claim7 := { stood := { row := namesCutsRow, standIns := [], harness := (true, "76e1c11c94bf5df8f3b6eb767c0f871dcabb9f4d8e5d1473bfe3e4477c5ede6a"), looks := false }, kinds := [], alts := [], laidByText := true, laidKinds := [.data, .pinned], laidTests := true, laidLooks := .later }
def NamesCutsCardSaid : Prop := Claim7.holds Tryd.pinned (.plain (OpenSpec.ofChange namesCutsSpec)) namesCutsCard

/-- THE TIED CARD OF 'cubitlaw06.NamesPowers'. -/
def namesPowersCard : Claim7 := { stood := { row := namesPowersRow, standIns := [], harness := (true, "76e1c11c94bf5df8f3b6eb767c0f871dcabb9f4d8e5d1473bfe3e4477c5ede6a"), looks := false }, kinds := [], alts := [], laidByText := true, laidKinds := [.data, .data, .data, .data, .pinned], laidTests := true, laidLooks := .later }
def NamesPowersCardSaid : Prop := Claim7.holds Tryd.pinned (.plain (OpenSpec.ofChange namesPowersSpec)) namesPowersCard

/-- THE TIED CARD OF 'cubitlaw06.NamesSorts'. -/
def namesSortsCard : Claim7 := { stood := { row := namesSortsRow, standIns := [], harness := (true, "76e1c11c94bf5df8f3b6eb767c0f871dcabb9f4d8e5d1473bfe3e4477c5ede6a"), looks := false }, kinds := [], alts := [], laidByText := true, laidKinds := [.data, .pinned], laidTests := true, laidLooks := .later }
def NamesSortsCardSaid : Prop := Claim7.holds Tryd.pinned (.plain (OpenSpec.ofChange namesSortsSpec)) namesSortsCard

/-- THE TIED CARD OF 'cubitlaw06.NamesFar'. -/
def namesFarCard : Claim7 := { stood := { row := namesFarRow, standIns := [], harness := (true, "76e1c11c94bf5df8f3b6eb767c0f871dcabb9f4d8e5d1473bfe3e4477c5ede6a"), looks := false }, kinds := [], alts := [], laidByText := true, laidKinds := [.data, .pinned], laidTests := true, laidLooks := .later }
def NamesFarCardSaid : Prop := Claim7.holds Tryd.pinned (.plain (OpenSpec.ofChange namesFarSpec)) namesFarCard

/-- THE TIED CARD OF 'cubitlaw06.NamesNear'. -/
def namesNearCard : Claim7 := { stood := { row := namesNearRow, standIns := [], harness := (true, "76e1c11c94bf5df8f3b6eb767c0f871dcabb9f4d8e5d1473bfe3e4477c5ede6a"), looks := false }, kinds := [], alts := [], laidByText := true, laidKinds := [.data, .pinned], laidTests := true, laidLooks := .later }
def NamesNearCardSaid : Prop := Claim7.holds Tryd.pinned (.plain (OpenSpec.ofChange namesNearSpec)) namesNearCard

/-- THE SECOND FORM's CARD OF 'cubitlaw06.NamesFolds'. -/
def namesFoldsUptoCard : Claim7 := { stood := { row := namesFoldsUptoRow, standIns := [], harness := (true, "76e1c11c94bf5df8f3b6eb767c0f871dcabb9f4d8e5d1473bfe3e4477c5ede6a"), looks := false }, kinds := [], alts := [], laidByText := true, laidKinds := [.data, .pinned], laidTests := true, laidLooks := .later }
def NamesFoldsUptoCardSaid : Prop := Claim7.holds Tryd.pinned (.plain (OpenSpec.upto namesFoldsSpec)) namesFoldsUptoCard

/-- THE SECOND FORM's CARD OF 'cubitlaw06.NamesCuts'. -/
def namesCutsUptoCard : Claim7 := { stood := { row := namesCutsUptoRow, standIns := [], harness := (true, "76e1c11c94bf5df8f3b6eb767c0f871dcabb9f4d8e5d1473bfe3e4477c5ede6a"), looks := false }, kinds := [], alts := [], laidByText := true, laidKinds := [.data, .pinned], laidTests := true, laidLooks := .later }
def NamesCutsUptoCardSaid : Prop := Claim7.holds Tryd.pinned (.plain (OpenSpec.upto namesCutsSpec)) namesCutsUptoCard

/-- THE SECOND FORM's CARD OF 'cubitlaw06.NamesPowers'. -/
def namesPowersUptoCard : Claim7 := { stood := { row := namesPowersUptoRow, standIns := [], harness := (true, "76e1c11c94bf5df8f3b6eb767c0f871dcabb9f4d8e5d1473bfe3e4477c5ede6a"), looks := false }, kinds := [], alts := [], laidByText := true, laidKinds := [.data, .data, .data, .data, .pinned], laidTests := true, laidLooks := .later }
def NamesPowersUptoCardSaid : Prop := Claim7.holds Tryd.pinned (.plain (OpenSpec.upto namesPowersSpec)) namesPowersUptoCard

/-- THE SECOND FORM's CARD OF 'cubitlaw06.NamesSorts'. -/
def namesSortsUptoCard : Claim7 := { stood := { row := namesSortsUptoRow, standIns := [], harness := (true, "76e1c11c94bf5df8f3b6eb767c0f871dcabb9f4d8e5d1473bfe3e4477c5ede6a"), looks := false }, kinds := [], alts := [], laidByText := true, laidKinds := [.data, .pinned], laidTests := true, laidLooks := .later }
def NamesSortsUptoCardSaid : Prop := Claim7.holds Tryd.pinned (.plain (OpenSpec.upto namesSortsSpec)) namesSortsUptoCard

/-- THE SECOND FORM's CARD OF 'cubitlaw06.NamesFar'. -/
def namesFarUptoCard : Claim7 := { stood := { row := namesFarUptoRow, standIns := [], harness := (true, "76e1c11c94bf5df8f3b6eb767c0f871dcabb9f4d8e5d1473bfe3e4477c5ede6a"), looks := false }, kinds := [], alts := [], laidByText := true, laidKinds := [.data, .pinned], laidTests := true, laidLooks := .later }
def NamesFarUptoCardSaid : Prop := Claim7.holds Tryd.pinned (.plain (OpenSpec.upto namesFarSpec)) namesFarUptoCard

/-- THE SECOND FORM's CARD OF 'cubitlaw06.NamesNear'. -/
def namesNearUptoCard : Claim7 := { stood := { row := namesNearUptoRow, standIns := [], harness := (true, "76e1c11c94bf5df8f3b6eb767c0f871dcabb9f4d8e5d1473bfe3e4477c5ede6a"), looks := false }, kinds := [], alts := [], laidByText := true, laidKinds := [.data, .pinned], laidTests := true, laidLooks := .later }
def NamesNearUptoCardSaid : Prop := Claim7.holds Tryd.pinned (.plain (OpenSpec.upto namesNearSpec)) namesNearUptoCard
end Rows
end Go.Proofs.YtiooiacebgojiaaDoor
