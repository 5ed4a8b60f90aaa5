/- The document's own test of a list of texts, and of what is too large. -/
import Derived.Test.YthcihkgellginabDoorTell
namespace Go.Proofs.YthcihkgellginabDoor
open Go.RowKit

/-- Are all right? -/
def allRight (ss : List ByteArray) : Bool := ss.all fun s => Cub.rightB s.data.toList

theorem allRight_bad (ss : List ByteArray) (i : Nat) (hi : i < ss.length) (h : Cub.rightB ss[i].data.toList = false) : allRight ss = false := by
  cases hb : allRight ss with
  | false => rfl
  | true =>
    have := List.all_eq_true.1 hb ss[i] (List.getElem_mem hi)
    rw [h] at this; cases this
theorem allRight_good (ss : List ByteArray) (h : ∀ i (hi : i < ss.length), Cub.rightB ss[i].data.toList = true) : allRight ss = true := by
  apply List.all_eq_true.2
  intro s hs
  obtain ⟨i, hi, rfl⟩ := List.getElem_of_mem hs
  exact h i hi

theorem allRight_two (s t : ByteArray) : allRight [s, t] = (Cub.rightB s.data.toList && Cub.rightB t.data.toList) := by simp [allRight]

end Go.Proofs.YthcihkgellginabDoor
