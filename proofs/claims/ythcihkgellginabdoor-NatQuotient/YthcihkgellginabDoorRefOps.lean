/- The document's own Add, Sub and Mul. -/
import Derived.Test.YthcihkgellginabDoorRefLists
import Derived.Test.YthcihkgellginabDoorInt
namespace Go.Proofs.YthcihkgellginabDoor
open Go.RowKit

/-- What two texts come to: the answer of a sum, a product. -/
def ansText (op : Nat → Nat → Nat) (s t : ByteArray) : List UInt8 := if (Cub.rightB s.data.toList && Cub.rightB t.data.toList) = true then toldText (op (Cub.dval s.data.toList) (Cub.dval t.data.toList)) else []
def ansErr (op : Nat → Nat → Nat) (s t : ByteArray) : Int := if (Cub.rightB s.data.toList && Cub.rightB t.data.toList) = true then toldErr (op (Cub.dval s.data.toList) (Cub.dval t.data.toList)) else 3
/-- And of a difference. -/
def subText (s t : ByteArray) : List UInt8 := if (Cub.rightB s.data.toList && Cub.rightB t.data.toList) = true then (if Cub.dval s.data.toList < Cub.dval t.data.toList then [] else Lib.decDigits (Cub.dval s.data.toList - Cub.dval t.data.toList)) else []
def subErr (s t : ByteArray) : Int := if (Cub.rightB s.data.toList && Cub.rightB t.data.toList) = true then (if Cub.dval s.data.toList < Cub.dval t.data.toList then 9 else 0) else 3

theorem sum_digits {s t : ByteArray} (hs : Cub.rightB s.data.toList = true) (ht : Cub.rightB t.data.toList = true) : Lib.nDigits (Cub.dval s.data.toList + Cub.dval t.data.toList) ≤ 9000000000 ∧ Lib.nDigits (Cub.dval s.data.toList * Cub.dval t.data.toList) ≤ 9000000000 := by
  obtain ⟨h1, h2⟩ := (Cub.rightB_iff _).1 hs
  obtain ⟨h3, h4⟩ := (Cub.rightB_iff _).1 ht
  have d1 := Cub.dval_lt h1.1
  have d2 := Cub.dval_lt h3.1
  generalize s.data.toList.length = a at *
  generalize t.data.toList.length = b at *
  have p1 : 0 < 10 ^ a := Nat.pow_pos (by decide)
  have p2 : 0 < 10 ^ b := Nat.pow_pos (by decide)
  have e : 10 ^ (a + b + 1) = 10 ^ a * 10 ^ b * 10 := by rw [Nat.pow_succ, Nat.pow_add]
  have q1 : 10 ^ a * 1 ≤ 10 ^ a * 10 ^ b := Nat.mul_le_mul_left _ p2
  have q2 : 1 * 10 ^ b ≤ 10 ^ a * 10 ^ b := Nat.mul_le_mul_right _ p1
  have m1 : Cub.dval s.data.toList * Cub.dval t.data.toList < 10 ^ a * 10 ^ b := Nat.mul_lt_mul'' d1 d2
  have l1 := (Cub.dec_len_lt (Cub.dval s.data.toList + Cub.dval t.data.toList) (a + b + 1) (by omega)).2 (by omega)
  have l2 := (Cub.dec_len_lt (Cub.dval s.data.toList * Cub.dval t.data.toList) (a + b + 1) (by omega)).2 (by omega)
  rw [Lib.decDigits_length] at l1 l2
  omega

end Go.Proofs.YthcihkgellginabDoor
