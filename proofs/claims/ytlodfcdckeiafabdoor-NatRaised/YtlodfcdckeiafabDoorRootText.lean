/- What a root is told as. -/
import Derived.Test.YtlodfcdckeiafabDoorPowOps
import Derived.Test.YtlodfcdckeiafabDoorPlain
namespace Go.Proofs.YtlodfcdckeiafabDoor
open Go.RowKit

def rootText (s : ByteArray) (n : Int) : List UInt8 := if Cub.rightB s.data.toList = true then (if 1 ≤ n ∧ n ≤ 4096 then Lib.decDigits (Cub.rootOf (val s) n.toNat) else []) else []
def rootErr (s : ByteArray) (n : Int) : Int := if Cub.rightB s.data.toList = true then (if 1 ≤ n ∧ n ≤ 4096 then 0 else 1) else 3

end Go.Proofs.YtlodfcdckeiafabDoor
