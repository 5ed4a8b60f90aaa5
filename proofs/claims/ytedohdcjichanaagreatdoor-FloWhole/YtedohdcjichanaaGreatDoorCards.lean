/-
  DERIVED. GIVEN WITH THE SEED: THE CARDS: each row of YtedohdcjichanaaGreatDoorRows.lean that lists a variable, with what it lists TIED to the program's text (the seventh form; the later family's looks); each row that meets fmt, with fmt's text TOLD by the authors' own Lean function (tested against real Go, not proved from fmt's source: count such statements apart). THE CARD IS WHAT COUNTS. Prove the row's statement (the work); the ties are given (YtedohdcjichanaaGreatDoorTie.lean); close each card by the builder's one call (the guide's Derived/Test/ToyasCard.lean, 'card_holds'). Laid BY PROGRAM, IN A SANDBOX (cutbox-door.mjs). By AI agents, Wed Nov 11 2026. No macro, syntax, notation, axiom, sorry.
-/
import Derived.Test.YtedohdcjichanaaGreatDoorRows
import GoSem.ClaimSeven
namespace Go.Proofs.YtedohdcjichanaaGreatDoor
namespace Rows

/-- THE TIED CARD OF 'cubitlaw03.FloSums'. -/
def floSumsCard : Claim7 := { stood := { row := floSumsRow, standIns := [], harness := (true, "dfbacd722452614f4dd0dd9baea256c609d133c9b06e82ab528423511a4ed25a"), looks := true }, kinds := [], alts := [], laidByText := true, laidKinds := [.data, .data, .data, .sentinel, .sentinel], laidTests := true, laidLooks := .later }
def FloSumsCardSaid : Prop := Claim7.holds Tryz.pinned (.plain (OpenSpec.ofChange floSumsSpec)) floSumsCard

/-- THE TIED CARD OF 'cubitlaw03.FloDots'. -/
def floDotsCard : Claim7 := { stood := { row := floDotsRow, standIns := [], harness := (true, "dfbacd722452614f4dd0dd9baea256c609d133c9b06e82ab528423511a4ed25a"), looks := true }, kinds := [], alts := [], laidByText := true, laidKinds := [.data, .data, .data, .sentinel, .sentinel], laidTests := true, laidLooks := .later }
def FloDotsCardSaid : Prop := Claim7.holds Tryz.pinned (.plain (OpenSpec.ofChange floDotsSpec)) floDotsCard

/-- THE TIED CARD OF 'cubitlaw03.FloOrderly'. -/
def floOrderlyCard : Claim7 := { stood := { row := floOrderlyRow, standIns := [], harness := (true, "dfbacd722452614f4dd0dd9baea256c609d133c9b06e82ab528423511a4ed25a"), looks := true }, kinds := [], alts := [], laidByText := true, laidKinds := [.data, .data, .data, .sentinel, .sentinel], laidTests := true, laidLooks := .later }
def FloOrderlyCardSaid : Prop := Claim7.holds Tryz.pinned (.plain (OpenSpec.ofChange floOrderlySpec)) floOrderlyCard

/-- THE TIED CARD OF 'cubitlaw03.FloWhole'. -/
def floWholeCard : Claim7 := { stood := { row := floWholeRow, standIns := [], harness := (true, "dfbacd722452614f4dd0dd9baea256c609d133c9b06e82ab528423511a4ed25a"), looks := true }, kinds := [], alts := [], laidByText := true, laidKinds := [.data, .data, .data, .sentinel, .sentinel], laidTests := true, laidLooks := .later }
def FloWholeCardSaid : Prop := Claim7.holds Tryz.pinned (.plain (OpenSpec.ofChange floWholeSpec)) floWholeCard

/-- THE SECOND FORM's CARD OF 'cubitlaw03.FloSums'. -/
def floSumsUptoCard : Claim7 := { stood := { row := floSumsUptoRow, standIns := [], harness := (true, "dfbacd722452614f4dd0dd9baea256c609d133c9b06e82ab528423511a4ed25a"), looks := true }, kinds := [], alts := [], laidByText := true, laidKinds := [.data, .data, .data, .sentinel, .sentinel], laidTests := true, laidLooks := .later }
def FloSumsUptoCardSaid : Prop := Claim7.holds Tryz.pinned (.plain (OpenSpec.upto floSumsSpec)) floSumsUptoCard

/-- THE SECOND FORM's CARD OF 'cubitlaw03.FloDots'. -/
def floDotsUptoCard : Claim7 := { stood := { row := floDotsUptoRow, standIns := [], harness := (true, "dfbacd722452614f4dd0dd9baea256c609d133c9b06e82ab528423511a4ed25a"), looks := true }, kinds := [], alts := [], laidByText := true, laidKinds := [.data, .data, .data, .sentinel, .sentinel], laidTests := true, laidLooks := .later }
def FloDotsUptoCardSaid : Prop := Claim7.holds Tryz.pinned (.plain (OpenSpec.upto floDotsSpec)) floDotsUptoCard

/-- THE SECOND FORM's CARD OF 'cubitlaw03.FloOrderly'. -/
def floOrderlyUptoCard : Claim7 := { stood := { row := floOrderlyUptoRow, standIns := [], harness := (true, "dfbacd722452614f4dd0dd9baea256c609d133c9b06e82ab528423511a4ed25a"), looks := true }, kinds := [], alts := [], laidByText := true, laidKinds := [.data, .data, .data, .sentinel, .sentinel], laidTests := true, laidLooks := .later }
def FloOrderlyUptoCardSaid : Prop := Claim7.holds Tryz.pinned (.plain (OpenSpec.upto floOrderlySpec)) floOrderlyUptoCard

/-- THE SECOND FORM's CARD OF 'cubitlaw03.FloWhole'. -/
def floWholeUptoCard : Claim7 := { stood := { row := floWholeUptoRow, standIns := [], harness := (true, "dfbacd722452614f4dd0dd9baea256c609d133c9b06e82ab528423511a4ed25a"), looks := true }, kinds := [], alts := [], laidByText := true, laidKinds := [.data, .data, .data, .sentinel, .sentinel], laidTests := true, laidLooks := .later }
def FloWholeUptoCardSaid : Prop := Claim7.holds Tryz.pinned (.plain (OpenSpec.upto floWholeSpec)) floWholeUptoCard
end Rows
end Go.Proofs.YtedohdcjichanaaGreatDoor
