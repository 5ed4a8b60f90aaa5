/- A closed fact of TempsFinds' row. -/
import Derived.Test.YtliadckofhblnaaGreatDoorAdd
namespace Go.Proofs.YtliadckofhblnaaGreatDoor
open Go.ChangeShapes Go.WideShapes Go.ChangeAt Go.RowKit
theorem tempsFinds_closed:joinedFacts Tryz.pinned.checked.prog 7 Tryz.f7 (OpenSpec.ofChange Rows.tempsFindsSpec).bare Rows.tempsFindsRow=true:=by kernel_rfl
end Go.Proofs.YtliadckofhblnaaGreatDoor
