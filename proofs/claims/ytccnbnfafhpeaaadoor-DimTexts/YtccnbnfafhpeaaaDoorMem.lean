/- Dimensions in memory. -/
import Derived.Test.YtccnbnfafhpeaaaDoorRef
import Derived.Laws.Tables
import Derived.Laws.CopyOwn
import Derived.Laws.ResultCell
namespace Go.Proofs.YtccnbnfafhpeaaaDoor
open Go.RowKit

/-- Exponents as cells. -/
def cells8 (l : List Int) : Array Value := (l.map fun x => Value.int .i64 x).toArray
/-- Block g holds just these exponents. -/
def Own8 (w : World) (g : Nat) (l : List Int) : Prop := w.heap[g]? = some (.cells (cells8 l) 24 (0, 0))
theorem Own8.lt {w : World} {g : Nat} {l : List Int} (h : Own8 w g l) : g < w.heap.size := (Array.getElem?_eq_some_iff.1 h).1
theorem Own8.cell {w : World} {g : Nat} {l : List Int} (h : Own8 w g l) (i : Nat) (x : Int) (hi : l[i]? = some x) : w.cell? ⟨g, i, none⟩ = some (.int .i64 x) := by
  unfold Own8 cells8 at h
  simp [World.cell?, h, hi]
theorem Own8.frozen {w : World} {g : Nat} {l : List Int} (h : Own8 w g l) (i : Nat) : w.frozen? ⟨g, i, none⟩ = false := by
  unfold Own8 at h
  simp [World.frozen?, h]
theorem Own8.set {w : World} {g : Nat} {l : List Int} (h : Own8 w g l) (i : Nat) (x : Int) : Own8 (w.setCell ⟨g, i, none⟩ (.int .i64 x)) g (l.set i x) := by
  unfold Own8 cells8 at h ⊢
  simp only [World.setCell, Array.getElem?_modify, h, Option.map_some]
  simp [List.map_set]
theorem Own8.other {w : World} {g : Nat} {l : List Int} (h : Own8 w g l) {a : Addr} (ha : g ≠ a.block) (x : Value) : Own8 (w.setCell a x) g l :=
  (Below.heap_setCell w a x g ha).trans h
theorem Own8.alloc {w : World} {g : Nat} {l : List Int} (h : Own8 w g l) (o : Obj) : Own8 (w.alloc o) g l := (Below.heap_alloc w o g h.lt).trans h
theorem Own8.later {w w' : World} {g B : Nat} {l : List Int} (h : Own8 w g l) (hb : Below B w w') (hg : g < B) : Own8 w' g l := (hb.block g hg).trans h
theorem Own8.setRow {w : World} {g : Nat} {l : List Int} (h : Own8 w g l) (m : List Int) : Own8 (w.setRow g (cells8 m)) g m := setRow_heap w g _ _ 24 (0, 0) h
theorem size_alloc (w : World) (o : Obj) : (w.alloc o).heap.size = w.heap.size + 1 := by simp
theorem Own8.new (w : World) (l : List Int) : Own8 (w.alloc (.cells (cells8 l) 24)) w.heap.size l := heap_alloc_new w _
theorem info24 : (Tryd.prog.info? 24).map (·.size) = some 8 := by kernel_rfl
theorem ones8 (l : List Int) : (cells8 l).all (·.oneCell') = true := by
  unfold cells8
  rw [Array.all_eq_true_iff_forall_mem]
  intro v hv
  simp at hv
  obtain ⟨x, _, rfl⟩ := hv
  rfl
theorem size8 (l : List Int) : (cells8 l).size = l.length := by simp [cells8]
/-- Two results: a dimension's box, and a slot. -/
theorem res2 {fn : Func} {p u : Tmp} (h : fn.results = #[.cell p 24, .tmp u]) (tmps : Array Value) (w : World) (g : Nat) (l : List Int) (hl : l.length = 8)
    (hp : tmps.getD p undef = .pointer (some ⟨g, 0, none⟩)) (ho : Own8 w g l) : (results fn tmps).run Tryd.prog w = .ok (.tuple #[.agg (cells8 l), tmps.getD u undef]) w := by
  rw [results_cell_tmp h, hp]
  simp only [asAddr, Sem.run_pure, Result.andThen_ok]
  rw [run_loadVar_row w g 24 24 (cells8 l) (0, 0) _ ho Tryd.underlying24 rfl (by rw [info24, size8, hl])]
  rfl
/-- A dimension is stored into its box. -/
theorem store8 {ops : Array Oper} {rest : List Oper} {o : Oper} {a : Act} {w : World} {Q : Exit → Act → World → Prop} (hgd : o.guard = none) (x y : Operand) (ho : o.op = .store 24 x y)
    (g : Nat) (l m : List Int) (hl : l.length = 8) (hm : m.length = 8) (hx : a.eval x = .pointer (some ⟨g, 0, none⟩)) (hy : a.eval y = .agg (cells8 m)) (hg : Own8 w g l)
    (h : wpList Tryd.prog ops Q rest (a.put o.dst undef) (w.setRow g (cells8 m))) : wpList Tryd.prog ops Q (o :: rest) a w :=
  wpList_store_row hgd 24 x y ho g (cells8 m) hx hy 24 _ hg (by rw [info24, size8, hm]) (by rw [size8, size8, hl, hm]) (ones8 m) h

/-- A slice's memory holds n dimensions. -/
def Dims (w : World) (b o n : Nat) (X : Nat → Nat → Int) : Prop := b < w.heap.size ∧ ∀ i, i < n → ∀ j, j < 8 → w.cell? ⟨b, o + i * 8 + j, none⟩ = some (.int .i64 (X i j))
theorem Dims.later {w w' : World} {b o n : Nat} {X : Nat → Nat → Int} (h : Dims w b o n X) (hb : Below w.heap.size w w') : Dims w' b o n X := by
  have := hb.size
  exact ⟨by have := h.1; omega, fun i hi j hj => (hb.cell (p := ⟨b, o + i * 8 + j, none⟩) h.1).trans (h.2 i hi j hj)⟩
/-- The exponents of dimension i. -/
def dimAt (X : Nat → Nat → Int) (i : Nat) : List Int := [X i 0, X i 1, X i 2, X i 3, X i 4, X i 5, X i 6, X i 7]
/-- The first k are right. -/
def allB (X : Nat → Nat → Int) : Nat → Bool
  | 0 => true
  | k + 1 => allB X k && rightB (dimAt X k)
/-- The sum of the first k at place j. -/
def sumD (X : Nat → Nat → Int) : Nat → Nat → Int
  | 0, _ => 0
  | k + 1, j => wrap64 (sumD X k j + X k j)
def sumL (X : Nat → Nat → Int) (k : Nat) : List Int := [sumD X k 0, sumD X k 1, sumD X k 2, sumD X k 3, sumD X k 4, sumD X k 5, sumD X k 6, sumD X k 7]
theorem allB_false (X : Nat → Nat → Int) (k n : Nat) (h : k < n) (hf : rightB (dimAt X k) = false) : allB X n = false := by
  induction n with
  | zero => omega
  | succ n ih =>
    unfold allB
    by_cases e : k = n
    · subst e; rw [hf, Bool.and_false]
    · rw [ih (by omega), Bool.false_and]
def mulErr (X : Nat → Nat → Int) (n : Nat) : Int := if allB X n = true then errOf (rightB (sumL X n)) 51 else 1
/-- The sums of k + 1 at the first j places, those of k behind. -/
def mixL (X : Nat → Nat → Int) (k j : Nat) : List Int := (sumL X (k + 1)).take j ++ (sumL X k).drop j
theorem mixL_get (X : Nat → Nat → Int) (k j : Nat) (h : j < 8) : (mixL X k j)[j]? = some (sumD X k j) := by
  rcases eight (Nat.le_of_lt h) with rfl | rfl | rfl | rfl | rfl | rfl | rfl | rfl | rfl <;> first | rfl | omega
theorem mixL_set (X : Nat → Nat → Int) (k j : Nat) (h : j < 8) : (mixL X k j).set j (wrap64 (sumD X k j + X k j)) = mixL X k (j + 1) := by
  rcases eight (Nat.le_of_lt h) with rfl | rfl | rfl | rfl | rfl | rfl | rfl | rfl | rfl <;> first | rfl | omega
theorem dimAt_get (X : Nat → Nat → Int) (k j : Nat) (h : j < 8) : (dimAt X k)[j]? = some (X k j) := by
  rcases eight (Nat.le_of_lt h) with rfl | rfl | rfl | rfl | rfl | rfl | rfl | rfl | rfl <;> first | rfl | omega
theorem idxN (x0 x1 x2 x3 x4 x5 x6 x7 : Int) (j : Nat) (y : Int) (h : [x0, x1, x2, x3, x4, x5, x6, x7][j]? = some y) (w : World) : (Instr.index 24 (.agg #[.int .i64 x0, .int .i64 x1, .int .i64 x2, .int .i64 x3, .int .i64 x4, .int .i64 x5, .int .i64 x6, .int .i64 x7]) (.int .i64 j)).run Tryd.prog w = .ok (.int .i64 y) w := by
  have hj : j < 8 := (List.getElem?_eq_some_iff.1 h).1
  rcases eight (Nat.le_of_lt hj) with rfl | rfl | rfl | rfl | rfl | rfl | rfl | rfl | rfl
  · cases h; exact idx0 x0 x1 x2 x3 x4 x5 x6 x7 w
  · cases h; exact idx1 x0 x1 x2 x3 x4 x5 x6 x7 w
  · cases h; exact idx2 x0 x1 x2 x3 x4 x5 x6 x7 w
  · cases h; exact idx3 x0 x1 x2 x3 x4 x5 x6 x7 w
  · cases h; exact idx4 x0 x1 x2 x3 x4 x5 x6 x7 w
  · cases h; exact idx5 x0 x1 x2 x3 x4 x5 x6 x7 w
  · cases h; exact idx6 x0 x1 x2 x3 x4 x5 x6 x7 w
  · cases h; exact idx7 x0 x1 x2 x3 x4 x5 x6 x7 w
  · omega
end Go.Proofs.YtccnbnfafhpeaaaDoor
