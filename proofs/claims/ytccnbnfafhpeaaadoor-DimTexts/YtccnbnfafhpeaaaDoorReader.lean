/- The reader of a dimension's text: its state, in memory and plain. -/
import Derived.Test.YtccnbnfafhpeaaaDoorMem
import Derived.Test.YtccnbnfafhpeaaaDoorTerm
import Derived.Lib.OthersKept
import Derived.WalkSmall
namespace Go.Proofs.YtccnbnfafhpeaaaDoor
open Go.RowKit

/-- What has been read. -/
structure Rd where
  prod : List Int
  next : Int
  under : Bool
  place : Nat
  letterAt : Int
  numberAt : Int
  below : Bool
  size : Int
def Rd.tail (s : Rd) : List Value := [.int .i64 s.next, .bool s.under, .int .i64 s.place, .int .i64 s.letterAt, .int .i64 s.numberAt, .bool s.below, .int .i64 s.size]
def Rd.cells (s : Rd) : List Value := (s.prod.map fun x => Value.int .i64 x) ++ s.tail
/-- The reader lies in block g. -/
def OwnR (w : World) (g : Nat) (s : Rd) : Prop := s.prod.length = 8 ∧ w.heap[g]? = some (.cells s.cells.toArray 60 (0, 0))
theorem OwnR.lt {w : World} {g : Nat} {s : Rd} (h : OwnR w g s) : g < w.heap.size := (Array.getElem?_eq_some_iff.1 h.2).1
theorem OwnR.frozen {w : World} {g : Nat} {s : Rd} (h : OwnR w g s) (i : Nat) : w.frozen? ⟨g, i, none⟩ = false := by simp [World.frozen?, h.2]
theorem OwnR.cell {w : World} {g : Nat} {s : Rd} (h : OwnR w g s) (i : Nat) (v : Value) (hi : s.cells[i]? = some v) : w.cell? ⟨g, i, none⟩ = some v := by
  simp [World.cell?, h.2, hi]
theorem cells_prod {s : Rd} (i : Nat) (x : Int) (hi : s.prod[i]? = some x) : s.cells[i]? = some (.int .i64 x) := by
  unfold Rd.cells
  rw [List.getElem?_append_left (by have := (List.getElem?_eq_some_iff.1 hi).1; simpa using this)]
  simp [hi]
theorem cells_tail {s : Rd} (hl : s.prod.length = 8) (i : Nat) : s.cells[8 + i]? = s.tail[i]? := by
  unfold Rd.cells
  rw [List.getElem?_append_right (by simp [hl])]
  simp [hl]
theorem OwnR.tailCell {w : World} {g : Nat} {s : Rd} (h : OwnR w g s) : w.cell? ⟨g, 8, none⟩ = some (.int .i64 s.next) ∧ w.cell? ⟨g, 9, none⟩ = some (.bool s.under) ∧ w.cell? ⟨g, 10, none⟩ = some (.int .i64 s.place) ∧ w.cell? ⟨g, 11, none⟩ = some (.int .i64 s.letterAt) ∧ w.cell? ⟨g, 12, none⟩ = some (.int .i64 s.numberAt) ∧ w.cell? ⟨g, 13, none⟩ = some (.bool s.below) ∧ w.cell? ⟨g, 14, none⟩ = some (.int .i64 s.size) :=
  ⟨h.cell 8 _ (cells_tail h.1 0), h.cell 9 _ (cells_tail h.1 1), h.cell 10 _ (cells_tail h.1 2), h.cell 11 _ (cells_tail h.1 3), h.cell 12 _ (cells_tail h.1 4), h.cell 13 _ (cells_tail h.1 5), h.cell 14 _ (cells_tail h.1 6)⟩
theorem setCell_heap {w : World} {g i : Nat} {l : List Value} {t : TypeId} (h : w.heap[g]? = some (.cells l.toArray t (0, 0))) (v : Value) : (w.setCell ⟨g, i, none⟩ v).heap[g]? = some (.cells (l.set i v).toArray t (0, 0)) := by
  simp only [World.setCell, Array.getElem?_modify, h, Option.map_some]
  simp
theorem cells_set (s : Rd) (hl : s.prod.length = 8) (i : Nat) (v : Value) : s.cells.set (8 + i) v = (s.prod.map fun x => Value.int .i64 x) ++ s.tail.set i v := by
  unfold Rd.cells
  rw [List.set_append_right _ _ (by simp [hl])]
  simp [hl]
theorem OwnR.setNext {w : World} {g : Nat} {s : Rd} (h : OwnR w g s) (n : Int) : OwnR (w.setCell ⟨g, 8, none⟩ (.int .i64 n)) g { s with next := n } :=
  ⟨h.1, (setCell_heap h.2 _).trans (by rw [show (8 : Nat) = 8 + 0 from rfl, cells_set s h.1]; rfl)⟩
theorem OwnR.setPlace {w : World} {g : Nat} {s : Rd} (h : OwnR w g s) (n : Nat) : OwnR (w.setCell ⟨g, 10, none⟩ (.int .i64 (n : Int))) g { s with place := n } :=
  ⟨h.1, (setCell_heap h.2 _).trans (by rw [show (10 : Nat) = 8 + 2 from rfl, cells_set s h.1]; rfl)⟩
theorem OwnR.setLetter {w : World} {g : Nat} {s : Rd} (h : OwnR w g s) (n : Int) : OwnR (w.setCell ⟨g, 11, none⟩ (.int .i64 n)) g { s with letterAt := n } :=
  ⟨h.1, (setCell_heap h.2 _).trans (by rw [show (11 : Nat) = 8 + 3 from rfl, cells_set s h.1]; rfl)⟩
theorem OwnR.setNumber {w : World} {g : Nat} {s : Rd} (h : OwnR w g s) (n : Int) : OwnR (w.setCell ⟨g, 12, none⟩ (.int .i64 n)) g { s with numberAt := n } :=
  ⟨h.1, (setCell_heap h.2 _).trans (by rw [show (12 : Nat) = 8 + 4 from rfl, cells_set s h.1]; rfl)⟩
theorem OwnR.setBelow {w : World} {g : Nat} {s : Rd} (h : OwnR w g s) (b : Bool) : OwnR (w.setCell ⟨g, 13, none⟩ (.bool b)) g { s with below := b } :=
  ⟨h.1, (setCell_heap h.2 _).trans (by rw [show (13 : Nat) = 8 + 5 from rfl, cells_set s h.1]; rfl)⟩
theorem OwnR.setSize {w : World} {g : Nat} {s : Rd} (h : OwnR w g s) (n : Int) : OwnR (w.setCell ⟨g, 14, none⟩ (.int .i64 n)) g { s with size := n } :=
  ⟨h.1, (setCell_heap h.2 _).trans (by rw [show (14 : Nat) = 8 + 6 from rfl, cells_set s h.1]; rfl)⟩
theorem OwnR.setProd {w : World} {g : Nat} {s : Rd} (h : OwnR w g s) (i : Nat) (hi : i < 8) (n : Int) : OwnR (w.setCell ⟨g, i, none⟩ (.int .i64 n)) g { s with prod := s.prod.set i n } :=
  ⟨by simpa using h.1, (setCell_heap h.2 _).trans (by
    unfold Rd.cells
    rw [List.set_append_left _ _ (by simpa [h.1] using hi), ← List.map_set]
    rfl)⟩
/-- All other blocks stand. -/
def Others (g : Nat) (w w' : World) : Prop := Below g w w' ∧ ∀ b, b < w.heap.size → b ≠ g → w'.heap[b]? = w.heap[b]?
theorem Others.refl (g : Nat) (w : World) : Others g w w := ⟨Below.refl _ _, fun _ _ _ => rfl⟩
theorem Others.setCell {g : Nat} {w w' : World} (h : Others g w w') (i : Nat) (v : Value) : Others g w (w'.setCell ⟨g, i, none⟩ v) :=
  ⟨h.1.setCell (Nat.le_refl _) v, fun b hb hne => (Below.heap_setCell w' _ v b hne).trans (h.2 b hb hne)⟩
theorem Others.alloc {g : Nat} {w w' : World} (h : Others g w w') (hg : g ≤ w'.heap.size) (o : Obj) : Others g w (w'.alloc o) :=
  ⟨h.1.alloc hg o, fun b hb hne => (Below.heap_alloc w' o b (by have := h.1.size; omega)).trans (h.2 b hb hne)⟩
theorem Others.drew {g : Nat} {w w' : World} (h : Others g w w') : Others g w w'.drew := ⟨h.1.drew, fun b hb hne => h.2 b hb hne⟩
theorem Others.setRow {g : Nat} {w w' : World} (h : Others g w w') (c : Array Value) : Others g w (w'.setRow g c) :=
  ⟨below_setRow h.1 (Nat.le_refl _) c, fun b hb hne => (setRow_other w' g b c hne).trans (h.2 b hb hne)⟩
theorem Others.trans {g : Nat} {a b c : World} (h : Others g a b) (k : Others g b c) : Others g a c :=
  ⟨h.1.trans k.1, fun i hi hne => (k.2 i (by have := h.1.size; omega) hne).trans (h.2 i hi hne)⟩
theorem Others.below {g B : Nat} {w0 w w' : World} (h : Others g w w') (hb : Below B w0 w) (hB : B ≤ g) : Below B w0 w' := hb.trans (h.1.mono hB)
theorem OwnR.alloc {w : World} {g : Nat} {s : Rd} (h : OwnR w g s) (o : Obj) : OwnR (w.alloc o) g s := ⟨h.1, (Below.heap_alloc w o g h.lt).trans h.2⟩

/-! ### What is read, plain -/
/-- The place of a letter. -/
def placeOf (c : Int) : Option Nat := lettersL.findIdx? fun (r : Nat) => (r : Int) == c
def finishF (s : Rd) (c : Int) : Option Rd :=
  if 99 < s.size then none else
  let z := if (s.below == s.under) = true then s.size else -s.size
  let p := s.prod.set s.place (s.prod.getD s.place 0 + z)
  if rightB p = false then none else
  if c = 32 ∨ c = 47 ∨ c = -1 then some ⟨p, 0, c == 47, 0, 0, 0, false, 0⟩ else none
/-- One rune more; none: a fault. -/
def takeF (s : Rd) (at_ c : Int) : Option Rd :=
  if s.next = 0 then (placeOf c).map fun k => { s with next := 1, place := k, letterAt := at_ }
  else if s.next = 1 ∧ c = 94 then some { s with next := 2, numberAt := at_ + 1 }
  else if s.next = 2 ∧ c = 45 then some { s with next := 3, below := true }
  else if s.next = 1 then finishF { s with size := 1 } c
  else if 48 ≤ c ∧ c ≤ 57 then some { s with next := 4, size := min (s.size * 10 + (c - 48)) 100 }
  else if s.next = 4 then finishF s c
  else none
end Go.Proofs.YtccnbnfafhpeaaaDoor
