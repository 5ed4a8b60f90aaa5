/- The table of names.changes: 41 rows of 41 numbers. -/
import Derived.Test.YtiooiacebgojiabDoorRight
import Derived.Laws.Tables
import Derived.Laws.CopyOwn
import Derived.Laws.ResultCell
import Derived.Deep.Cut
import Derived.Great.BuildSlice
import Derived.Great.Walk
namespace Go.Proofs.YtiooiacebgojiabDoor
open Go.RowKit

def zeros1681 : Array Value := Array.replicate 1681 (.int .i64 0)
theorem info115 : (Tryd.prog.info? 80).map (·.size) = some 1681 := by kernel_rfl
/-- The table lies in block g: F i j stands in row i, place j. -/
def OwnTab (w : World) (g : Nat) (F : Nat → Nat → Int) : Prop := ∃ cs : Array Value, w.heap[g]? = some (.cells cs 80 (0, 0)) ∧ cs.size = 1681 ∧ ∀ i j, i < 41 → j < 41 → cs[i * 41 + j]? = some (.int .i64 (F i j))
def setF (F : Nat → Nat → Int) (i j : Nat) (x : Int) : Nat → Nat → Int := fun a b => if a = i ∧ b = j then x else F a b
theorem OwnTab.lt {w : World} {g : Nat} {F : Nat → Nat → Int} (h : OwnTab w g F) : g < w.heap.size := by
  obtain ⟨cs, h1, _⟩ := h
  exact (Array.getElem?_eq_some_iff.1 h1).1
theorem OwnTab.cell {w : World} {g : Nat} {F : Nat → Nat → Int} (h : OwnTab w g F) (i j : Nat) (hi : i < 41) (hj : j < 41) : w.cell? ⟨g, i * 41 + j, none⟩ = some (.int .i64 (F i j)) := by
  obtain ⟨cs, h1, _, h2⟩ := h
  simp [World.cell?, h1, h2 i j hi hj]
theorem OwnTab.frozen {w : World} {g : Nat} {F : Nat → Nat → Int} (h : OwnTab w g F) (i : Nat) : w.frozen? ⟨g, i, none⟩ = false := by
  obtain ⟨cs, h1, _⟩ := h
  simp [World.frozen?, h1]
theorem OwnTab.set {w : World} {g : Nat} {F : Nat → Nat → Int} (h : OwnTab w g F) (i j : Nat) (hi : i < 41) (hj : j < 41) (x : Int) : OwnTab (w.setCell ⟨g, i * 41 + j, none⟩ (.int .i64 x)) g (setF F i j x) := by
  obtain ⟨cs, h1, hs, h2⟩ := h
  refine ⟨cs.setIfInBounds (i * 41 + j) (.int .i64 x), ?_, by simpa using hs, ?_⟩
  · simp [World.setCell, Array.getElem?_modify, h1]
  · intro a b ha hb
    rw [Array.getElem?_setIfInBounds]
    unfold setF
    by_cases e : a = i ∧ b = j
    · obtain ⟨rfl, rfl⟩ := e
      rw [if_pos rfl, if_pos (by omega), if_pos ⟨rfl, rfl⟩]
    · rw [if_neg (by omega), if_neg e]
      exact h2 a b ha hb
theorem OwnTab.new (w : World) : OwnTab (w.alloc (.cells zeros1681 80)) w.heap.size fun _ _ => 0 := by
  refine ⟨zeros1681, heap_alloc_new w _, by simp [zeros1681], fun i j hi hj => ?_⟩
  unfold zeros1681
  rw [Array.getElem?_replicate, if_pos (by omega)]
theorem OwnTab.drew {w : World} {g : Nat} {F : Nat → Nat → Int} (h : OwnTab w g F) : OwnTab w.drew g F := h
theorem OwnTab.later {w w' : World} {g B : Nat} {F : Nat → Nat → Int} (h : OwnTab w g F) (hb : Below B w w') (hg : g < B) : OwnTab w' g F := by
  obtain ⟨cs, h1, h2⟩ := h
  exact ⟨cs, (hb.block g hg).trans h1, h2⟩
/-- One entry, by those ahead of it. -/
def stepF (a b : Nat → Int) (F : Nat → Nat → Int) (i j : Nat) : Int :=
  if i = 0 ∨ j = 0 then ((i + j : Nat) : Int)
  else
    let o := if a (i - 1) = b (j - 1) then F (i - 1) (j - 1) else F (i - 1) (j - 1) + 1
    let m := min (min (F (i - 1) j + 1) (F i (j - 1) + 1)) o
    if 1 < i ∧ 1 < j ∧ a (i - 1) = b (j - 2) ∧ a (i - 2) = b (j - 1) then min m (F (i - 2) (j - 2) + 1) else m
end Go.Proofs.YtiooiacebgojiabDoor
