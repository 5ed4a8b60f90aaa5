/-
  DERIVED. GIVEN WITH THE SEED: THE CARDS: each row of YtijifpbpjinmhaaGreatDoorRows.lean that lists a variable, with what it lists TIED to the program's text (the seventh form; the later family's looks); each row that meets fmt, with fmt's text TOLD by the authors' own Lean function (tested against real Go, not proved from fmt's source: count such statements apart). THE CARD IS WHAT COUNTS. Prove the row's statement (the work); the ties are given (YtijifpbpjinmhaaGreatDoorTie.lean); close each card by the builder's one call (the guide's Derived/Test/ToyasCard.lean, 'card_holds'). Laid BY PROGRAM, IN A SANDBOX (cutbox-door.mjs). By AI agents, Wed Nov 11 2026. No macro, syntax, notation, axiom, sorry.
-/
import Derived.Test.YtijifpbpjinmhaaGreatDoorRows
import GoSem.ClaimSeven
namespace Go.Proofs.YtijifpbpjinmhaaGreatDoor
namespace Rows

/-- THE TIED CARD OF 'cubitlaw03.FloNears'. -/
def floNearsCard : Claim7 := { stood := { row := floNearsRow, standIns := [], harness := (true, "884eb5eb84af99fec60bf73c1d44bb90b185c24b5d63a61ee9188aa471a2d015"), looks := true }, kinds := [], alts := [], laidByText := true, laidKinds := [.data, .data, .data, .sentinel, .sentinel], laidTests := true, laidLooks := .later }
def FloNearsCardSaid : Prop := Claim7.holds Tryz.pinned (.plain (OpenSpec.ofChange floNearsSpec)) floNearsCard

/-- THE TIED CARD OF 'cubitlaw03.FloExacts'. -/
def floExactsCard : Claim7 := { stood := { row := floExactsRow, standIns := [], harness := (true, "884eb5eb84af99fec60bf73c1d44bb90b185c24b5d63a61ee9188aa471a2d015"), looks := true }, kinds := [], alts := [], laidByText := true, laidKinds := [.data, .data, .data, .sentinel, .sentinel], laidTests := true, laidLooks := .later }
def FloExactsCardSaid : Prop := Claim7.holds Tryz.pinned (.plain (OpenSpec.ofChange floExactsSpec)) floExactsCard

/-- THE TIED CARD OF 'cubitlaw03.FloTexts'. -/
def floTextsCard : Claim7 := { stood := { row := floTextsRow, standIns := [], harness := (true, "884eb5eb84af99fec60bf73c1d44bb90b185c24b5d63a61ee9188aa471a2d015"), looks := true }, kinds := [], alts := [], laidByText := true, laidKinds := [.data, .data, .data, .data, .sentinel, .sentinel, .pinned], laidTests := true, laidLooks := .later }
def FloTextsCardSaid : Prop := Claim7.holds Tryz.pinned (.plain (OpenSpec.ofChange floTextsSpec)) floTextsCard

/-- THE TIED CARD OF 'cubitlaw03.FloOrders'. -/
def floOrdersCard : Claim7 := { stood := { row := floOrdersRow, standIns := [], harness := (true, "884eb5eb84af99fec60bf73c1d44bb90b185c24b5d63a61ee9188aa471a2d015"), looks := true }, kinds := [], alts := [], laidByText := true, laidKinds := [.data, .data, .data, .sentinel, .sentinel], laidTests := true, laidLooks := .later }
def FloOrdersCardSaid : Prop := Claim7.holds Tryz.pinned (.plain (OpenSpec.ofChange floOrdersSpec)) floOrdersCard

/-- THE TIED CARD OF 'cubitlaw03.FloBack'. -/
def floBackCard : Claim7 := { stood := { row := floBackRow, standIns := [], harness := (true, "884eb5eb84af99fec60bf73c1d44bb90b185c24b5d63a61ee9188aa471a2d015"), looks := true }, kinds := [], alts := [], laidByText := true, laidKinds := [.data, .data, .data, .data, .sentinel, .sentinel, .pinned], laidTests := true, laidLooks := .later }
def FloBackCardSaid : Prop := Claim7.holds Tryz.pinned (.plain (OpenSpec.ofChange floBackSpec)) floBackCard

/-- THE TIED CARD OF 'cubitlaw03.FloNearest'. -/
def floNearestCard : Claim7 := { stood := { row := floNearestRow, standIns := [], harness := (true, "884eb5eb84af99fec60bf73c1d44bb90b185c24b5d63a61ee9188aa471a2d015"), looks := true }, kinds := [], alts := [], laidByText := true, laidKinds := [.data, .data, .data, .sentinel, .sentinel], laidTests := true, laidLooks := .later }
def FloNearestCardSaid : Prop := Claim7.holds Tryz.pinned (.plain (OpenSpec.ofChange floNearestSpec)) floNearestCard

/-- THE TIED CARD OF 'cubitlaw03.FloShortest'. -/
def floShortestCard : Claim7 := { stood := { row := floShortestRow, standIns := [], harness := (true, "884eb5eb84af99fec60bf73c1d44bb90b185c24b5d63a61ee9188aa471a2d015"), looks := true }, kinds := [], alts := [], laidByText := true, laidKinds := [.data, .data, .data, .data, .sentinel, .sentinel, .pinned], laidTests := true, laidLooks := .later }
def FloShortestCardSaid : Prop := Claim7.holds Tryz.pinned (.plain (OpenSpec.ofChange floShortestSpec)) floShortestCard

/-- THE SECOND FORM's CARD OF 'cubitlaw03.FloNears'. -/
def floNearsUptoCard : Claim7 := { stood := { row := floNearsUptoRow, standIns := [], harness := (true, "884eb5eb84af99fec60bf73c1d44bb90b185c24b5d63a61ee9188aa471a2d015"), looks := true }, kinds := [], alts := [], laidByText := true, laidKinds := [.data, .data, .data, .sentinel, .sentinel], laidTests := true, laidLooks := .later }
def FloNearsUptoCardSaid : Prop := Claim7.holds Tryz.pinned (.plain (OpenSpec.upto floNearsSpec)) floNearsUptoCard

/-- THE SECOND FORM's CARD OF 'cubitlaw03.FloExacts'. -/
def floExactsUptoCard : Claim7 := { stood := { row := floExactsUptoRow, standIns := [], harness := (true, "884eb5eb84af99fec60bf73c1d44bb90b185c24b5d63a61ee9188aa471a2d015"), looks := true }, kinds := [], alts := [], laidByText := true, laidKinds := [.data, .data, .data, .sentinel, .sentinel], laidTests := true, laidLooks := .later }
def FloExactsUptoCardSaid : Prop := Claim7.holds Tryz.pinned (.plain (OpenSpec.upto floExactsSpec)) floExactsUptoCard

/-- THE SECOND FORM's CARD OF 'cubitlaw03.FloTexts'. -/
def floTextsUptoCard : Claim7 := { stood := { row := floTextsUptoRow, standIns := [], harness := (true, "884eb5eb84af99fec60bf73c1d44bb90b185c24b5d63a61ee9188aa471a2d015"), looks := true }, kinds := [], alts := [], laidByText := true, laidKinds := [.data, .data, .data, .data, .sentinel, .sentinel, .pinned], laidTests := true, laidLooks := .later }
def FloTextsUptoCardSaid : Prop := Claim7.holds Tryz.pinned (.plain (OpenSpec.upto floTextsSpec)) floTextsUptoCard

/-- THE SECOND FORM's CARD OF 'cubitlaw03.FloOrders'. -/
def floOrdersUptoCard : Claim7 := { stood := { row := floOrdersUptoRow, standIns := [], harness := (true, "884eb5eb84af99fec60bf73c1d44bb90b185c24b5d63a61ee9188aa471a2d015"), looks := true }, kinds := [], alts := [], laidByText := true, laidKinds := [.data, .data, .data, .sentinel, .sentinel], laidTests := true, laidLooks := .later }
def FloOrdersUptoCardSaid : Prop := Claim7.holds Tryz.pinned (.plain (OpenSpec.upto floOrdersSpec)) floOrdersUptoCard

/-- THE SECOND FORM's CARD OF 'cubitlaw03.FloBack'. -/
def floBackUptoCard : Claim7 := { stood := { row := floBackUptoRow, standIns := [], harness := (true, "884eb5eb84af99fec60bf73c1d44bb90b185c24b5d63a61ee9188aa471a2d015"), looks := true }, kinds := [], alts := [], laidByText := true, laidKinds := [.data, .data, .data, .data, .sentinel, .sentinel, .pinned], laidTests := true, laidLooks := .later }
def FloBackUptoCardSaid : Prop := Claim7.holds Tryz.pinned (.plain (OpenSpec.upto floBackSpec)) floBackUptoCard

/-- THE SECOND FORM's CARD OF 'cubitlaw03.FloNearest'. -/
def floNearestUptoCard : Claim7 := { stood := { row := floNearestUptoRow, standIns := [], harness := (true, "884eb5eb84af99fec60bf73c1d44bb90b185c24b5d63a61ee9188aa471a2d015"), looks := true }, kinds := [], alts := [], laidByText := true, laidKinds := [.data, .data, .data, .sentinel, .sentinel], laidTests := true, laidLooks := .later }
def FloNearestUptoCardSaid : Prop := Claim7.holds Tryz.pinned (.plain (OpenSpec.upto floNearestSpec)) floNearestUptoCard

/-- THE SECOND FORM's CARD OF 'cubitlaw03.FloShortest'. -/
def floShortestUptoCard : Claim7 := { stood := { row := floShortestUptoRow, standIns := [], harness := (true, "884eb5eb84af99fec60bf73c1d44bb90b185c24b5d63a61ee9188aa471a2d015"), looks := true }, kinds := [], alts := [], laidByText := true, laidKinds := [.data, .data, .data, .data, .sentinel, .sentinel, .pinned], laidTests := true, laidLooks := .later }
def FloShortestUptoCardSaid : Prop := Claim7.holds Tryz.pinned (.plain (OpenSpec.upto floShortestSpec)) floShortestUptoCard
end Rows
end Go.Proofs.YtijifpbpjinmhaaGreatDoor
