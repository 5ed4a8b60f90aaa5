/- Counting in a list and in one of the same texts. -/
import Derived.Test.YtiooiacebgojiabDoorSortMath
namespace Go.Proofs.YtiooiacebgojiabDoor
open Go.RowKit
attribute [local instance] Classical.propDecidable

/-- How often a text stands in the first k of a list. -/
noncomputable def cntT (l : List ByteArray) (s : ByteArray) (k : Nat) : Int := (((l.take k).filter fun x => decide (x = s)).length : Nat)
theorem cntT_zero (l : List ByteArray) (s : ByteArray) : cntT l s 0 = 0 := by simp [cntT]
theorem cntT_yes (l : List ByteArray) (s : ByteArray) (k : Nat) (h : k < l.length) (he : l[k] = s) : cntT l s (k + 1) = cntT l s k + 1 := by
  unfold cntT
  rw [List.take_succ_eq_append_getElem h, List.filter_append, List.length_append]
  simp [he]
theorem cntT_no (l : List ByteArray) (s : ByteArray) (k : Nat) (h : k < l.length) (he : ¬ l[k] = s) : cntT l s (k + 1) = cntT l s k := by
  unfold cntT
  rw [List.take_succ_eq_append_getElem h, List.filter_append, List.length_append]
  simp [he]
theorem cntT_bound (l : List ByteArray) (s : ByteArray) (k : Nat) : 0 ≤ cntT l s k ∧ cntT l s k ≤ k := by
  unfold cntT
  have h1 : ((l.take k).filter fun x => decide (x = s)).length ≤ (l.take k).length := List.length_filter_le ..
  have h2 : (l.take k).length ≤ k := by rw [List.length_take]; omega
  omega
theorem cntT_perm {l m : List ByteArray} (h : l.Perm m) (s : ByteArray) : cntT l s l.length = cntT m s m.length := by
  unfold cntT
  rw [List.take_of_length_le (Nat.le_refl _), List.take_of_length_le (Nat.le_refl _), (h.filter _).length_eq]
end Go.Proofs.YtiooiacebgojiabDoor
