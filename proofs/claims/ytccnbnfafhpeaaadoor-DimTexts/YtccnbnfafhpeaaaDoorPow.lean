/- dim.Pow. -/
import Derived.Test.YtccnbnfafhpeaaaDoorOps
import Derived.Test.YtccnbnfafhpeaaaDoorEq
namespace Go.Proofs.YtccnbnfafhpeaaaDoor
open Go.RowKit

theorem mul_abs {x n : Int} {p q : Nat} (h1 : x.natAbs ≤ p) (h2 : n.natAbs ≤ q) : (x * n).natAbs ≤ p * q := by
  rw [Int.natAbs_mul]; exact Nat.mul_le_mul h1 h2
theorem wrap_mul {x n : Int} (h1 : -99 ≤ x ∧ x ≤ 99) (h2 : -1000 ≤ n ∧ n ≤ 1000) : wrap64 (x * n) = x * n := by
  have := mul_abs (x := x) (n := n) (p := 99) (q := 1000) (by omega) (by omega)
  unfold wrap64; omega
theorem far_mul {x n : Int} (hx : x ≠ 0) (hn : n < -99 ∨ 99 < n) : okB (x * n) = false := by
  have h1 : 1 ≤ x.natAbs := by omega
  have h2 : 100 ≤ n.natAbs := by omega
  have h3 : 1 * 100 ≤ x.natAbs * n.natAbs := Nat.mul_le_mul h1 h2
  rw [← Int.natAbs_mul] at h3
  exact okB_hi (by omega)
def powErr (r : Bool) (l : List Int) : Int := if r = true then errOf (rightB l) 51 else 1
section
variable (x0 x1 x2 x3 x4 x5 x6 x7 n : Int)
theorem far_right (h : eqB [x0, x1, x2, x3, x4, x5, x6, x7] [0, 0, 0, 0, 0, 0, 0, 0] = false) (hn : n < -99 ∨ 99 < n) : rightB [x0 * n, x1 * n, x2 * n, x3 * n, x4 * n, x5 * n, x6 * n, x7 * n] = false := by
  by_cases h0 : x0 = 0
  rotate_left
  · exact rightB_false 0 (x0 * n) rfl (far_mul h0 hn)
  by_cases h1 : x1 = 0
  rotate_left
  · exact rightB_false 1 (x1 * n) rfl (far_mul h1 hn)
  by_cases h2 : x2 = 0
  rotate_left
  · exact rightB_false 2 (x2 * n) rfl (far_mul h2 hn)
  by_cases h3 : x3 = 0
  rotate_left
  · exact rightB_false 3 (x3 * n) rfl (far_mul h3 hn)
  by_cases h4 : x4 = 0
  rotate_left
  · exact rightB_false 4 (x4 * n) rfl (far_mul h4 hn)
  by_cases h5 : x5 = 0
  rotate_left
  · exact rightB_false 5 (x5 * n) rfl (far_mul h5 hn)
  by_cases h6 : x6 = 0
  rotate_left
  · exact rightB_false 6 (x6 * n) rfl (far_mul h6 hn)
  by_cases h7 : x7 = 0
  rotate_left
  · exact rightB_false 7 (x7 * n) rfl (far_mul h7 hn)
  simp [eqB, h0, h1, h2, h3, h4, h5, h6, h7] at h

set_option maxRecDepth 100000 in
set_option maxHeartbeats 2000000 in
theorem pow_any (w : World) : Calls Tryd.prog 17 #[.agg #[.int .i64 x0, .int .i64 x1, .int .i64 x2, .int .i64 x3, .int .i64 x4, .int .i64 x5, .int .i64 x6, .int .i64 x7], .int .i64 n] w fun e w' => e = .returned (.tuple #[.agg #[.int .i64 (sel (rightB [x0, x1, x2, x3, x4, x5, x6, x7] && rightB [x0 * n, x1 * n, x2 * n, x3 * n, x4 * n, x5 * n, x6 * n, x7 * n]) (x0 * n)), .int .i64 (sel (rightB [x0, x1, x2, x3, x4, x5, x6, x7] && rightB [x0 * n, x1 * n, x2 * n, x3 * n, x4 * n, x5 * n, x6 * n, x7 * n]) (x1 * n)), .int .i64 (sel (rightB [x0, x1, x2, x3, x4, x5, x6, x7] && rightB [x0 * n, x1 * n, x2 * n, x3 * n, x4 * n, x5 * n, x6 * n, x7 * n]) (x2 * n)), .int .i64 (sel (rightB [x0, x1, x2, x3, x4, x5, x6, x7] && rightB [x0 * n, x1 * n, x2 * n, x3 * n, x4 * n, x5 * n, x6 * n, x7 * n]) (x3 * n)), .int .i64 (sel (rightB [x0, x1, x2, x3, x4, x5, x6, x7] && rightB [x0 * n, x1 * n, x2 * n, x3 * n, x4 * n, x5 * n, x6 * n, x7 * n]) (x4 * n)), .int .i64 (sel (rightB [x0, x1, x2, x3, x4, x5, x6, x7] && rightB [x0 * n, x1 * n, x2 * n, x3 * n, x4 * n, x5 * n, x6 * n, x7 * n]) (x5 * n)), .int .i64 (sel (rightB [x0, x1, x2, x3, x4, x5, x6, x7] && rightB [x0 * n, x1 * n, x2 * n, x3 * n, x4 * n, x5 * n, x6 * n, x7 * n]) (x6 * n)), .int .i64 (sel (rightB [x0, x1, x2, x3, x4, x5, x6, x7] && rightB [x0 * n, x1 * n, x2 * n, x3 * n, x4 * n, x5 * n, x6 * n, x7 * n]) (x7 * n))], .int .i64 (powErr (rightB [x0, x1, x2, x3, x4, x5, x6, x7]) [x0 * n, x1 * n, x2 * n, x3 * n, x4 * n, x5 * n, x6 * n, x7 * n])]) ∧ Below w.heap.size w w' := by
  have HA := hide (right_any x0 x1 x2 x3 x4 x5 x6 x7)
  have HT := hide (told_any (x0 * n) (x1 * n) (x2 * n) (x3 * n) (x4 * n) (x5 * n) (x6 * n) (x7 * n))
  have HG := hide (rightB_get (l := [x0, x1, x2, x3, x4, x5, x6, x7]))
  have HF := hide (far_right x0 x1 x2 x3 x4 x5 x6 x7 n)
  have heq := eqIn24 x0 x1 x2 x3 x4 x5 x6 x7 0 0 0 0 0 0 0 0
  have hz : eqB [x0, x1, x2, x3, x4, x5, x6, x7] [0, 0, 0, 0, 0, 0, 0, 0] = true → x0 = 0 ∧ x1 = 0 ∧ x2 = 0 ∧ x3 = 0 ∧ x4 = 0 ∧ x5 = 0 ∧ x6 = 0 ∧ x7 = 0 := by
    intro h; simpa [eqB] using h
  have HZ := hide hz
  clear hz
  unfold powErr
  generalize hr : rightB [x0, x1, x2, x3, x4, x5, x6, x7] = r at *
  cases r with
  | false =>
    clear hr
    simp only [Bool.false_and, sel_false, Bool.false_eq_true, if_false]
    go_enter Tryd.func17, Tryd.ntmps17
    go_wp2_with (go_at_call 13; refine (unhide HA _).mono ?_; rintro e w' ⟨rfl, rfl⟩)
    exact bodyPost_ret (v := .tuple #[.agg #[.int .i64 0, .int .i64 0, .int .i64 0, .int .i64 0, .int .i64 0, .int .i64 0, .int .i64 0, .int .i64 0], .int .i64 1]) (by simp [results, Tryd.results17, go_sem]) rfl ⟨rfl, by repeat (first | exact Below.refl _ _ | (refine Below.alloc ?_ (by simp <;> omega) _))⟩
  | true =>
    simp only [Bool.true_and, if_true]
    have hb := unhide HG rfl
    clear hr
    cases he : eqB [x0, x1, x2, x3, x4, x5, x6, x7] [0, 0, 0, 0, 0, 0, 0, 0] with
    | true =>
      obtain ⟨rfl, rfl, rfl, rfl, rfl, rfl, rfl, rfl⟩ := unhide HZ he
      have hr0 : rightB [0 * n, 0 * n, 0 * n, 0 * n, 0 * n, 0 * n, 0 * n, 0 * n] = true := rightB_true fun j x hx => by
        have hm := List.mem_of_getElem? hx
        have : x = 0 := by simp at hm; exact hm
        subst this; rfl
      rw [hr0]
      simp only [sel_true, errOf_true, Int.zero_mul]
      rw [he] at heq
      clear HF HT HZ hr0 hb HG he
      go_enter Tryd.func17, Tryd.ntmps17
      go_wp2_with (go_at_call 13; refine (unhide HA _).mono ?_; rintro e w' ⟨rfl, rfl⟩)
      exact bodyPost_ret (v := .tuple #[.agg #[.int .i64 0, .int .i64 0, .int .i64 0, .int .i64 0, .int .i64 0, .int .i64 0, .int .i64 0, .int .i64 0], .int .i64 0]) (by simp [results, Tryd.results17, go_sem]) rfl ⟨rfl, by repeat (first | exact Below.refl _ _ | (refine Below.alloc ?_ (by simp <;> omega) _))⟩
    | false =>
      rw [he] at heq
      by_cases hn : n < -99 ∨ 99 < n
      · rw [unhide HF he hn]
        simp only [sel_false, errOf_false]
        clear HF HT HZ hb HG he
        rcases hn with hn | hn
        · go_enter Tryd.func17, Tryd.ntmps17
          go_wp2_with (go_at_call 13; refine (unhide HA _).mono ?_; rintro e w' ⟨rfl, rfl⟩)
          exact bodyPost_ret (v := .tuple #[.agg #[.int .i64 0, .int .i64 0, .int .i64 0, .int .i64 0, .int .i64 0, .int .i64 0, .int .i64 0, .int .i64 0], .int .i64 51]) (by simp [results, Tryd.results17, go_sem]) rfl ⟨rfl, by repeat (first | exact Below.refl _ _ | (refine Below.alloc ?_ (by simp <;> omega) _))⟩
        · have hn' : ¬ n < -99 := by omega
          go_enter Tryd.func17, Tryd.ntmps17
          go_wp2_with (go_at_call 13; refine (unhide HA _).mono ?_; rintro e w' ⟨rfl, rfl⟩)
          exact bodyPost_ret (v := .tuple #[.agg #[.int .i64 0, .int .i64 0, .int .i64 0, .int .i64 0, .int .i64 0, .int .i64 0, .int .i64 0, .int .i64 0], .int .i64 51]) (by simp [results, Tryd.results17, go_sem]) rfl ⟨rfl, by repeat (first | exact Below.refl _ _ | (refine Below.alloc ?_ (by simp <;> omega) _))⟩
      · have h1 : ¬ n < -99 := by omega
        have h2 : ¬ 99 < n := by omega
        have m0 := wrap_mul (n := n) (hb 0 x0 rfl) (by omega)
        have m1 := wrap_mul (n := n) (hb 1 x1 rfl) (by omega)
        have m2 := wrap_mul (n := n) (hb 2 x2 rfl) (by omega)
        have m3 := wrap_mul (n := n) (hb 3 x3 rfl) (by omega)
        have m4 := wrap_mul (n := n) (hb 4 x4 rfl) (by omega)
        have m5 := wrap_mul (n := n) (hb 5 x5 rfl) (by omega)
        have m6 := wrap_mul (n := n) (hb 6 x6 rfl) (by omega)
        have m7 := wrap_mul (n := n) (hb 7 x7 rfl) (by omega)
        clear hn HF HZ hb HG he
        generalize rightB [x0 * n, x1 * n, x2 * n, x3 * n, x4 * n, x5 * n, x6 * n, x7 * n] = rq at *
        go_enter Tryd.func17, Tryd.ntmps17
        go_wp2_with (go_at_call 13; refine (unhide HA _).mono ?_; rintro e w' ⟨rfl, rfl⟩)
        refine wp_loop_rounds 9 ?_
        repeat any_goals (rw [rounds_succ]; go_wp2_with (go_at_call 39; refine (unhide HT _).mono ?_; rintro e w' ⟨rfl, rfl⟩))
        exact bodyPost_ret (v := .tuple #[.agg #[.int .i64 (sel rq (x0 * n)), .int .i64 (sel rq (x1 * n)), .int .i64 (sel rq (x2 * n)), .int .i64 (sel rq (x3 * n)), .int .i64 (sel rq (x4 * n)), .int .i64 (sel rq (x5 * n)), .int .i64 (sel rq (x6 * n)), .int .i64 (sel rq (x7 * n))], .int .i64 (errOf rq 51)]) (by simp [results, Tryd.results17, go_sem]) rfl ⟨rfl, by repeat (first | exact Below.refl _ _ | (refine Below.alloc ?_ (by simp <;> omega) _))⟩
end
end Go.Proofs.YtccnbnfafhpeaaaDoor
