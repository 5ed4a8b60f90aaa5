/-
  DERIVED. GIVEN WITH THE SEED: THE CARDS: each row of YtiooiacebgojiabDoorRows.lean that lists a variable, with what it lists TIED to the program's text (the seventh form; the later family's looks); each row that meets fmt, with fmt's text TOLD by the authors' own Lean function (tested against real Go, not proved from fmt's source: count such statements apart). THE CARD IS WHAT COUNTS. Prove the row's statement (the work); the ties are given (YtiooiacebgojiabDoorTie.lean); close each card by the builder's one call (the guide's Derived/Test/ToyasCard.lean, 'card_holds'). Laid BY PROGRAM, IN A SANDBOX (cutbox-door.mjs). By AI agents, Wed Nov 11 2026. No macro, syntax, notation, axiom, sorry.
-/
import Derived.Test.YtiooiacebgojiabDoorRows
import GoSem.ClaimSeven
namespace Go.Proofs.YtiooiacebgojiabDoor
namespace Rows

/-- THE TIED CARD OF 'cubitlaw06.NamesWords'. -/
def namesWordsCard : Claim7 := { stood := { row := namesWordsRow, standIns := [], harness := (true, "341002a286f547977514e1359a44e2f4ee57a688a11e3cc9d36b8f154b0781b1"), looks := false }, kinds := [], alts := [], laidByText := true, laidKinds := [.data, .pinned], laidTests := true, laidLooks := .later }
def NamesWordsCardSaid : Prop := Claim7.holds Tryd.pinned (.plain (OpenSpec.ofChange namesWordsSpec)) namesWordsCard

/-- THE TIED CARD OF 'cubitlaw06.NamesRaised'. -/
def namesRaisedCard : Claim7 := { stood := { row := namesRaisedRow, standIns := [], harness := (true, "341002a286f547977514e1359a44e2f4ee57a688a11e3cc9d36b8f154b0781b1"), looks := false }, kinds := [], alts := [], laidByText := true, laidKinds := [.data, .data, .data, .data, .pinned], laidTests := true, laidLooks := .later }
def NamesRaisedCardSaid : Prop := Claim7.holds Tryd.pinned (.plain (OpenSpec.ofChange namesRaisedSpec)) namesRaisedCard

/-- THE TIED CARD OF 'cubitlaw06.NamesOrder'. -/
def namesOrderCard : Claim7 := { stood := { row := namesOrderRow, standIns := [], harness := (true, "341002a286f547977514e1359a44e2f4ee57a688a11e3cc9d36b8f154b0781b1"), looks := false }, kinds := [], alts := [], laidByText := true, laidKinds := [.data, .pinned], laidTests := true, laidLooks := .later }
def NamesOrderCardSaid : Prop := Claim7.holds Tryd.pinned (.plain (OpenSpec.ofChange namesOrderSpec)) namesOrderCard

/-- THE TIED CARD OF 'cubitlaw06.NamesDistance'. -/
def namesDistanceCard : Claim7 := { stood := { row := namesDistanceRow, standIns := [], harness := (true, "341002a286f547977514e1359a44e2f4ee57a688a11e3cc9d36b8f154b0781b1"), looks := false }, kinds := [], alts := [], laidByText := true, laidKinds := [.data, .pinned], laidTests := true, laidLooks := .later }
def NamesDistanceCardSaid : Prop := Claim7.holds Tryd.pinned (.plain (OpenSpec.ofChange namesDistanceSpec)) namesDistanceCard

/-- THE SECOND FORM's CARD OF 'cubitlaw06.NamesWords'. -/
def namesWordsUptoCard : Claim7 := { stood := { row := namesWordsUptoRow, standIns := [], harness := (true, "341002a286f547977514e1359a44e2f4ee57a688a11e3cc9d36b8f154b0781b1"), looks := false }, kinds := [], alts := [], laidByText := true, laidKinds := [.data, .pinned], laidTests := true, laidLooks := .later }
def NamesWordsUptoCardSaid : Prop := Claim7.holds Tryd.pinned (.plain (OpenSpec.upto namesWordsSpec)) namesWordsUptoCard

/-- THE SECOND FORM's CARD OF 'cubitlaw06.NamesRaised'. -/
def namesRaisedUptoCard : Claim7 := { stood := { row := namesRaisedUptoRow, standIns := [], harness := (true, "341002a286f547977514e1359a44e2f4ee57a688a11e3cc9d36b8f154b0781b1"), looks := false }, kinds := [], alts := [], laidByText := true, laidKinds := [.data, .data, .data, .data, .pinned], laidTests := true, laidLooks := .later }
def NamesRaisedUptoCardSaid : Prop := Claim7.holds Tryd.pinned (.plain (OpenSpec.upto namesRaisedSpec)) namesRaisedUptoCard

/-- THE SECOND FORM's CARD OF 'cubitlaw06.NamesOrder'. -/
def namesOrderUptoCard : Claim7 := { stood := { row := namesOrderUptoRow, standIns := [], harness := (true, "341002a286f547977514e1359a44e2f4ee57a688a11e3cc9d36b8f154b0781b1"), looks := false }, kinds := [], alts := [], laidByText := true, laidKinds := [.data, .pinned], laidTests := true, laidLooks := .later }
def NamesOrderUptoCardSaid : Prop := Claim7.holds Tryd.pinned (.plain (OpenSpec.upto namesOrderSpec)) namesOrderUptoCard

/-- THE SECOND FORM's CARD OF 'cubitlaw06.NamesDistance'. -/
def namesDistanceUptoCard : Claim7 := { stood := { row := namesDistanceUptoRow, standIns := [], harness := (true, "341002a286f547977514e1359a44e2f4ee57a688a11e3cc9d36b8f154b0781b1"), looks := false }, kinds := [], alts := [], laidByText := true, laidKinds := [.data, .pinned], laidTests := true, laidLooks := .later }
def NamesDistanceUptoCardSaid : Prop := Claim7.holds Tryd.pinned (.plain (OpenSpec.upto namesDistanceSpec)) namesDistanceUptoCard
end Rows
end Go.Proofs.YtiooiacebgojiabDoor
