/- A closed fact of TempsStands' row. -/
import Derived.Test.YtliadckofhblnaaGreatDoorLimb3
import Derived.Test.YtliadckofhblnaaGreatDoorCards
import Derived.Test.YtliadckofhblnaaGreatDoorTie
import Derived.ProofKit
namespace Go.Proofs.YtliadckofhblnaaGreatDoor
open Go.ChangeShapes Go.WideShapes Go.ChangeAt Go.RowKit
theorem zHc:joinedFacts Tryz.pinned.checked.prog 6 Tryz.f6 (OpenSpec.ofChange Rows.tempsStandsSpec).bare Rows.tempsStandsRow=true:=by kernel_rfl
end Go.Proofs.YtliadckofhblnaaGreatDoor
