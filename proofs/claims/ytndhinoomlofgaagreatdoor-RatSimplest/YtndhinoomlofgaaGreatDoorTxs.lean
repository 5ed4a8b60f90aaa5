/- Digits without noughts ahead: a number's one text. -/
import Derived.Test.YtndhinoomlofgaaGreatDoorHas
import Derived.Test.YtndhinoomlofgaaGreatDoorRefText2
import Derived.Test.YtndhinoomlofgaaGreatDoorParse2
import Derived.Deep.Cut
import Derived.Deep.Quiet
import Derived.Test.YtndhinoomlofgaaGreatDoorGcdSmall
import Derived.Test.YtndhinoomlofgaaGreatDoorRefCmp
namespace Go.Proofs.YtndhinoomlofgaaGreatDoor
open Go.RowKit

/-- Does one of these bytes stand at that place? -/
def has (s : ByteArray) (k : Nat) (b : List UInt8) : Bool := if h : k < s.size then decide (0 ≤ Lib.indexByte b s[k]) else false
end Go.Proofs.YtndhinoomlofgaaGreatDoor

namespace Go.Proofs.YtndhinoomlofgaaGreatDoor
open Go.RowKit
section
variable {P : Program}
end
theorem below_drewN (w : World) : ∀ n : Nat, Below w.heap.size w (w.drewN n)
  | 0 => Below.refl _ _
  | n + 1 => by have := (below_drewN w n).drew; rwa [World.drew_drewN] at this
end Go.Proofs.YtndhinoomlofgaaGreatDoor

namespace Go.Proofs.YtndhinoomlofgaaGreatDoor
open Go.RowKit

def hB (s : ByteArray) (k : Int) (b : ByteArray) : Bool := has s k.toNat b.data.toList
end Go.Proofs.YtndhinoomlofgaaGreatDoor

namespace Go.Proofs.YtndhinoomlofgaaGreatDoor
open Go.RowKit

def dv (t : ByteArray) : Nat := Cub.dval t.data.toList
theorem size_append (t u : ByteArray) : (t ++ u).size = t.size + u.size := by simp
/-- The text of a number says how great it is. -/
theorem tx_long (n k : Nat) (hk : 0 < k) : k < (tx n).size ↔ 10 ^ k ≤ n := by
  rw [← list_len, tx_list]
  have := Cub.dec_len_lt n k hk
  omega
end Go.Proofs.YtndhinoomlofgaaGreatDoor
