/- names.changes: the table, filled. -/
import Derived.Test.YtiooiacebgojiabDoorTable
import Derived.WalkSmall
namespace Go.Proofs.YtiooiacebgojiabDoor
open Go.RowKit

/-- A row of runes in memory. -/
def Runes (w : World) (v : Value) (n : Nat) (a : Nat → Int) : Prop := ∃ (p : Option Addr) (c : Nat), v = .slice p n c ∧ n ≤ 40 ∧ (0 < n → ∃ g o, p = some ⟨g, o, none⟩ ∧ g < w.heap.size ∧ ∀ i, i < n → w.cell? ⟨g, o + i, none⟩ = some (.int .i32 (a i)))
structure Dist (a b : Nat → Int) (n m : Nat) (D : Nat → Nat → Int) : Prop where
  step : ∀ i j, i ≤ n → j ≤ m → D i j = stepF a b D i j
  lo : ∀ i j, 0 ≤ D i j
  hi : ∀ i j, i ≤ 40 → j ≤ 40 → D i j ≤ 100
/-- The entries ahead of row i, place j stand. -/
def Upto (F D : Nat → Nat → Int) (m i j : Nat) : Prop := ∀ x y, y ≤ m → (x < i ∨ (x = i ∧ y < j)) → F x y = D x y
theorem all1681 : zeros1681.all (·.oneCell') = true := by
  rw [Array.all_eq_true_iff_forall_mem]
  intro v hv
  rw [(Array.mem_replicate.1 hv).2]
  rfl
theorem size1681 : Tryd.zeroCells80.size = zeros1681.size := by kernel_rfl
theorem info1681 : (Tryd.prog.info? 80).map (·.size) = some zeros1681.size := by rw [info115]; simp [zeros1681]
theorem OwnTab.first (w : World) : OwnTab ((w.alloc (.cells Tryd.zeroCells80 80)).setRow w.heap.size zeros1681) w.heap.size fun _ _ => 0 := by
  refine ⟨zeros1681, setRow_heap _ _ _ _ _ _ (heap_alloc_new w _), by simp [zeros1681], fun i j hi hj => ?_⟩
  unfold zeros1681
  rw [Array.getElem?_replicate, if_pos (by omega)]
def OutI (D : Nat → Nat → Int) (n m : Nat) (w : World) (v : Value) (wr : World) : Prop := ∃ (i : Nat) (F : Nat → Nat → Int), v = .int .i64 (i : Int) ∧ i ≤ n + 1 ∧ Hid (OwnTab wr w.heap.size F) ∧ Hid (Upto F D m i 0) ∧ Hid (Below w.heap.size w wr)
theorem outI_mk {D : Nat → Nat → Int} {n m : Nat} {w : World} {v : Value} {wr : World} (i : Nat) (F : Nat → Nat → Int) (h1 : v = .int .i64 (i : Int)) (h2 : i ≤ n + 1) (h3 : Hid (OwnTab wr w.heap.size F)) (h4 : Hid (Upto F D m i 0)) (h5 : Hid (Below w.heap.size w wr)) : OutI D n m w v wr := ⟨i, F, h1, h2, h3, h4, h5⟩
def InI (D : Nat → Nat → Int) (i m : Nat) (w : World) (v : Value) (wr : World) : Prop := ∃ (j : Nat) (F : Nat → Nat → Int), v = .int .i64 (j : Int) ∧ j ≤ m + 1 ∧ Hid (OwnTab wr w.heap.size F) ∧ Hid (Upto F D m i j) ∧ Hid (Below w.heap.size w wr)
theorem inI_mk {D : Nat → Nat → Int} {i m : Nat} {w : World} {v : Value} {wr : World} (j : Nat) (F : Nat → Nat → Int) (h1 : v = .int .i64 (j : Int)) (h2 : j ≤ m + 1) (h3 : Hid (OwnTab wr w.heap.size F)) (h4 : Hid (Upto F D m i j)) (h5 : Hid (Below w.heap.size w wr)) : InI D i m w v wr := ⟨j, F, h1, h2, h3, h4, h5⟩

end Go.Proofs.YtiooiacebgojiabDoor
