/- Boxes that are written again; the document's Mul of any slice. -/
import Derived.Test.YtccnbnfafhpeaaaDoorRefMul
import Derived.Test.YtccnbnfafhpeaaaDoorMul
import Derived.Test.YtccnbnfafhpeaaaDoorKept
import Derived.Test.YtccnbnfafhpeaaaDoorGroupOps
import Derived.Test.YtccnbnfafhpeaaaDoorRefOps
import Derived.Test.YtccnbnfafhpeaaaDoorRefQuo
import Derived.Test.YtccnbnfafhpeaaaDoorKnown
namespace Go.Proofs.YtccnbnfafhpeaaaDoor
open Go.RowKit

theorem rmul_zero (a : Option Addr) (c : Nat) (w : World) : Calls Tryd.prog 11 #[.slice a 0 c] w fun e w' => e = .returned (.tuple #[.agg #[.int .i64 0, .int .i64 0, .int .i64 0, .int .i64 0, .int .i64 0, .int .i64 0, .int .i64 0, .int .i64 0], .int .i64 0]) ∧ Below w.heap.size w w' := by
  have HT := hide (rtold_any 0 0 0 0 0 0 0 0)
  have hr : rightB [0, 0, 0, 0, 0, 0, 0, 0] = true := by decide
  rw [hr] at HT
  simp only [sel_true, errOf_true] at HT
  clear hr
  go_enter Tryd.func11, Tryd.ntmps11
  go_wp2_with fail
  refine wp_loop_rounds 1 ?_
  rw [rounds_succ]
  go_wp2_with (go_at_call 40; refine (unhide HT _).mono ?_; rintro e w' ⟨rfl, rfl⟩)
  exact bodyPost_ret (v := .tuple #[.agg #[.int .i64 0, .int .i64 0, .int .i64 0, .int .i64 0, .int .i64 0, .int .i64 0, .int .i64 0, .int .i64 0], .int .i64 0]) (by simp [results, Tryd.results11, go_sem]) rfl ⟨rfl, by repeat (first | exact Below.refl _ _ | (refine Below.alloc ?_ (by simp <;> omega) _))⟩
theorem rmul_in (a : Option Addr) (n c : Nat) (X : Nat → Nat → Int) (w : World) (hn : n ≤ 9223372036854775807) (hd : InD w a n X) : Calls Tryd.prog 11 #[.slice a n c] w fun e w' => e = .returned (.tuple #[.agg #[.int .i64 (sel (allB X n && rightB (sumL X n)) (sumD X n 0)), .int .i64 (sel (allB X n && rightB (sumL X n)) (sumD X n 1)), .int .i64 (sel (allB X n && rightB (sumL X n)) (sumD X n 2)), .int .i64 (sel (allB X n && rightB (sumL X n)) (sumD X n 3)), .int .i64 (sel (allB X n && rightB (sumL X n)) (sumD X n 4)), .int .i64 (sel (allB X n && rightB (sumL X n)) (sumD X n 5)), .int .i64 (sel (allB X n && rightB (sumL X n)) (sumD X n 6)), .int .i64 (sel (allB X n && rightB (sumL X n)) (sumD X n 7))], .int .i64 (mulErr X n)]) ∧ Below w.heap.size w w' := by
  by_cases h0 : n = 0
  · subst h0
    have hr : rightB (sumL X 0) = true := by show rightB [0, 0, 0, 0, 0, 0, 0, 0] = true; decide
    have he : mulErr X 0 = 0 := by unfold mulErr; rw [hr]; rfl
    rw [hr, he]
    exact rmul_zero a c w
  · obtain ⟨b, o, rfl, h⟩ := hd (by omega)
    exact rmul_any b o n c X w hn h
/-- Four boxes, of which the first or the second is written. -/
theorem Bxs.set4 {w : World} {p q r s : Nat} {l0 l1 l2 l3 : List Int} (h : Bxs w [(p, l0), (q, l1), (r, l2), (s, l3)]) (hq : q ≠ p) (hr : r ≠ p) (hs : s ≠ p) (m : List Int) : Bxs (w.setRow p (cells8 m)) [(p, m), (q, l1), (r, l2), (s, l3)] := by
  intro z hz
  simp only [List.mem_cons, List.not_mem_nil, or_false] at hz
  rcases hz with rfl | rfl | rfl | rfl
  · exact (h.get 0 _ _ rfl).setRow m
  · exact (setRow_other w p q _ hq).trans (h.get 1 _ _ rfl)
  · exact (setRow_other w p r _ hr).trans (h.get 2 _ _ rfl)
  · exact (setRow_other w p s _ hs).trans (h.get 3 _ _ rfl)
theorem Bxs.swap4 {w : World} {p q r s : Nat × List Int} (h : Bxs w [p, q, r, s]) : Bxs w [q, p, r, s] := fun z hz => h z (by simp only [List.mem_cons, List.not_mem_nil, or_false] at hz ⊢; rcases hz with h | h | h | h <;> simp [h])
theorem size_drew {w w' : World} {o : Obj} (h : Below (w.alloc o).drew.heap.size (w.alloc o).drew w') : w.heap.size < w'.heap.size := by
  have h1 : (w.alloc o).heap.size ≤ w'.heap.size := h.size
  rw [size_alloc] at h1
  exact h1
theorem below_two {w0 w w' : World} {o1 o2 : Obj} (h : Below w0.heap.size w0 w) (hb : Below ((w.alloc o1).alloc o2).heap.size ((w.alloc o1).alloc o2) w') : Below w0.heap.size w0 w' := by
  have h1 := h.size
  have h2 := size_alloc w o1
  have h3 := size_alloc (w.alloc o1) o2
  exact ((h.alloc h1 o1).alloc (by omega) o2).trans (hb.mono (by omega))
theorem below_two' {w0 w w' : World} {o1 o2 : Obj} (h : Below w0.heap.size w0 w) (hb : Below ((w.alloc o1).alloc o2).drew.heap.size ((w.alloc o1).alloc o2).drew w') : Below w0.heap.size w0 w' := by
  have h1 := h.size
  have h2 := size_alloc w o1
  have h3 := size_alloc (w.alloc o1) o2
  exact (((h.alloc h1 o1).alloc (by omega) o2).drew).trans (hb.mono (by show w0.heap.size ≤ ((w.alloc o1).alloc o2).heap.size; omega))
theorem below_set4 {w0 w : World} {g : Nat} (h : Below w0.heap.size w0 w) (hg : w0.heap.size ≤ g) (c : Array Value) : Below w0.heap.size w0 (w.setRow g c) := below_setRow h hg c
theorem Bxs.drew {w : World} {L : List (Nat × List Int)} (h : Bxs w L) : Bxs w.drew L := fun p hp => h p hp
end Go.Proofs.YtccnbnfafhpeaaaDoor
