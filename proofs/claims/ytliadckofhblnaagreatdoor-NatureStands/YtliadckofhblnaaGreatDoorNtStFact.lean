/- A closed fact of NatureStands' row. -/
import Derived.Test.YtliadckofhblnaaGreatDoorLimb3
import Derived.Test.YtliadckofhblnaaGreatDoorCards
import Derived.Test.YtliadckofhblnaaGreatDoorTie
import Derived.ProofKit
namespace Go.Proofs.YtliadckofhblnaaGreatDoor
open Go.ChangeShapes Go.WideShapes Go.ChangeAt Go.RowKit
theorem zGs:joinedFacts Tryz.pinned.checked.prog 8 Tryz.f8 (OpenSpec.ofChange Rows.natureStandsSpec).bare Rows.natureStandsRow=true:=by kernel_rfl
end Go.Proofs.YtliadckofhblnaaGreatDoor
