/-
  DERIVED. GIVEN WITH THE SEED: THE CARDS: each row of YtlbfpjamfmghlaaDoorRows.lean that lists a variable, with what it lists TIED to the program's text (the seventh form; the later family's looks); each row that meets fmt, with fmt's text TOLD by the authors' own Lean function (tested against real Go, not proved from fmt's source: count such statements apart). THE CARD IS WHAT COUNTS. Prove the row's statement (the work); the ties are given (YtlbfpjamfmghlaaDoorTie.lean); close each card by the builder's one call (the guide's Derived/Test/ToyasCard.lean, 'card_holds'). Laid BY PROGRAM, IN A SANDBOX (cutbox-door.mjs). By AI agents, Wed Nov 11 2026. No macro, syntax, notation, axiom, sorry.
-/
import Derived.Test.YtlbfpjamfmghlaaDoorRows
import GoSem.ClaimSeven
namespace Go.Proofs.YtlbfpjamfmghlaaDoor
namespace Rows

/-- THE TIED CARD OF 'cubitlaw09.BaseFinds'. -/
def baseFindsCard : Claim7 := { stood := { row := baseFindsRow, standIns := [], harness := (true, "71683cc670a3d273921028810686b05bc80cab3be9c5d29aeea806b84d3a15ef"), looks := false }, kinds := [], alts := [], laidByText := true, laidKinds := [.data, .data, .data], laidTests := true, laidLooks := .later }
def BaseFindsCardSaid : Prop := Claim7.holds Tryd.pinned (.plain (OpenSpec.ofChange baseFindsSpec)) baseFindsCard

/-- THE SECOND FORM's CARD OF 'cubitlaw09.BaseFinds'. -/
def baseFindsUptoCard : Claim7 := { stood := { row := baseFindsUptoRow, standIns := [], harness := (true, "71683cc670a3d273921028810686b05bc80cab3be9c5d29aeea806b84d3a15ef"), looks := false }, kinds := [], alts := [], laidByText := true, laidKinds := [.data, .data, .data], laidTests := true, laidLooks := .later }
def BaseFindsUptoCardSaid : Prop := Claim7.holds Tryd.pinned (.plain (OpenSpec.upto baseFindsSpec)) baseFindsUptoCard
end Rows
end Go.Proofs.YtlbfpjamfmghlaaDoor
