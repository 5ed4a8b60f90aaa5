/- A closed fact of NatureMade' row. -/
import Derived.Test.YtliadckofhblnaaGreatDoorLimb3
import Derived.Test.YtliadckofhblnaaGreatDoorCards
import Derived.Test.YtliadckofhblnaaGreatDoorTie
import Derived.ProofKit
namespace Go.Proofs.YtliadckofhblnaaGreatDoor
open Go.ChangeShapes Go.WideShapes Go.ChangeAt Go.RowKit
theorem natureMade_closed:joinedFacts Tryz.pinned.checked.prog 10 Tryz.f10 (OpenSpec.ofChange Rows.natureMadeSpec).bare Rows.natureMadeRow=true:=by kernel_rfl
end Go.Proofs.YtliadckofhblnaaGreatDoor
