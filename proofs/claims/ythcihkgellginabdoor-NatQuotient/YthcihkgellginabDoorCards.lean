/-
  DERIVED. GIVEN WITH THE SEED: THE CARDS: each row of YthcihkgellginabDoorRows.lean that lists a variable, with what it lists TIED to the program's text (the seventh form; the later family's looks); each row that meets fmt, with fmt's text TOLD by the authors' own Lean function (tested against real Go, not proved from fmt's source: count such statements apart). THE CARD IS WHAT COUNTS. Prove the row's statement (the work); the ties are given (YthcihkgellginabDoorTie.lean); close each card by the builder's one call (the guide's Derived/Test/ToyasCard.lean, 'card_holds'). Laid BY PROGRAM, IN A SANDBOX (cutbox-door.mjs). By AI agents, Wed Nov 11 2026. No macro, syntax, notation, axiom, sorry.
-/
import Derived.Test.YthcihkgellginabDoorRows
import GoSem.ClaimSeven
namespace Go.Proofs.YthcihkgellginabDoor
namespace Rows

/-- THE TIED CARD OF 'cubitlaw01.NatQuotient'. -/
def natQuotientCard : Claim7 := { stood := { row := natQuotientRow, standIns := [], harness := (true, "9ae39fe54b3ea4638bcc2c1e1b6602d07041ebbdd43d4cea0ce775556bc2df0a"), looks := true }, kinds := [], alts := [], laidByText := true, laidKinds := [.data, .data, .data], laidTests := true, laidLooks := .later }
def NatQuotientCardSaid : Prop := Claim7.holds Tryd.pinned (.plain (OpenSpec.ofChange natQuotientSpec)) natQuotientCard

/-- THE TIED CARD OF 'cubitlaw01.NatRaised'. -/
def natRaisedCard : Claim7 := { stood := { row := natRaisedRow, standIns := [], harness := (true, "9ae39fe54b3ea4638bcc2c1e1b6602d07041ebbdd43d4cea0ce775556bc2df0a"), looks := true }, kinds := [], alts := [], laidByText := true, laidKinds := [.data, .data, .data], laidTests := true, laidLooks := .later }
def NatRaisedCardSaid : Prop := Claim7.holds Tryd.pinned (.plain (OpenSpec.ofChange natRaisedSpec)) natRaisedCard

/-- THE TIED CARD OF 'cubitlaw01.NatBack'. -/
def natBackCard : Claim7 := { stood := { row := natBackRow, standIns := [], harness := (true, "9ae39fe54b3ea4638bcc2c1e1b6602d07041ebbdd43d4cea0ce775556bc2df0a"), looks := true }, kinds := [], alts := [], laidByText := true, laidKinds := [.data, .data, .data, .sentinel, .sentinel], laidTests := true, laidLooks := .later }
def NatBackCardSaid : Prop := Claim7.holds Tryd.pinned (.plain (OpenSpec.ofChange natBackSpec)) natBackCard

/-- THE SECOND FORM's CARD OF 'cubitlaw01.NatQuotient'. -/
def natQuotientUptoCard : Claim7 := { stood := { row := natQuotientUptoRow, standIns := [], harness := (true, "9ae39fe54b3ea4638bcc2c1e1b6602d07041ebbdd43d4cea0ce775556bc2df0a"), looks := true }, kinds := [], alts := [], laidByText := true, laidKinds := [.data, .data, .data], laidTests := true, laidLooks := .later }
def NatQuotientUptoCardSaid : Prop := Claim7.holds Tryd.pinned (.plain (OpenSpec.upto natQuotientSpec)) natQuotientUptoCard

/-- THE SECOND FORM's CARD OF 'cubitlaw01.NatRaised'. -/
def natRaisedUptoCard : Claim7 := { stood := { row := natRaisedUptoRow, standIns := [], harness := (true, "9ae39fe54b3ea4638bcc2c1e1b6602d07041ebbdd43d4cea0ce775556bc2df0a"), looks := true }, kinds := [], alts := [], laidByText := true, laidKinds := [.data, .data, .data], laidTests := true, laidLooks := .later }
def NatRaisedUptoCardSaid : Prop := Claim7.holds Tryd.pinned (.plain (OpenSpec.upto natRaisedSpec)) natRaisedUptoCard

/-- THE SECOND FORM's CARD OF 'cubitlaw01.NatBack'. -/
def natBackUptoCard : Claim7 := { stood := { row := natBackUptoRow, standIns := [], harness := (true, "9ae39fe54b3ea4638bcc2c1e1b6602d07041ebbdd43d4cea0ce775556bc2df0a"), looks := true }, kinds := [], alts := [], laidByText := true, laidKinds := [.data, .data, .data, .sentinel, .sentinel], laidTests := true, laidLooks := .later }
def NatBackUptoCardSaid : Prop := Claim7.holds Tryd.pinned (.plain (OpenSpec.upto natBackSpec)) natBackUptoCard
end Rows
end Go.Proofs.YthcihkgellginabDoor
