/- dim.Root; Count and small. -/
import Derived.Test.YtccnbnfafhpeaaaDoorPow
namespace Go.Proofs.YtccnbnfafhpeaaaDoor
open Go.RowKit

/-- n divides each. -/
def divB (l : List Int) (n : Int) : Bool := l.all fun x => x.tmod n == 0
theorem divB_false {l : List Int} {n : Int} (k : Nat) (x : Int) (hk : l[k]? = some x) (h : (x.tmod n != 0) = true) : divB l n = false := by
  unfold divB
  rw [List.all_eq_false]
  exact ⟨x, List.mem_of_getElem? hk, by simpa using h⟩
theorem wrap_div {x n : Int} (h1 : -99 ≤ x ∧ x ≤ 99) : wrap64 (x.tdiv n) = x.tdiv n := by
  have h3 : (x.tdiv n).natAbs = x.natAbs / n.natAbs := Int.natAbs_tdiv x n
  have h4 : x.natAbs / n.natAbs ≤ x.natAbs := Nat.div_le_self _ _
  unfold wrap64; omega
def rootOk (r : Bool) (l : List Int) (n : Int) : Bool := r && decide (1 ≤ n) && divB l n
def rootErr (r : Bool) (l : List Int) (n : Int) : Int := if (r && decide (1 ≤ n)) = true then errOf (divB l n) 10 else 1

theorem count_any (x n : Int) (w : World) (hn : 1 ≤ n ∧ n ≤ 1000) : Calls Tryd.prog 31 #[.int .i64 x, .int .i64 n] w fun e w' => e = .returned (.int .i64 (x % n)) ∧ w' = w := by
  have h0 := Int.emod_nonneg x (show n ≠ 0 by omega)
  have h1 := Int.emod_lt_of_pos x (show 0 < n by omega)
  have h2 : (n == 0) = false := by simp; omega
  by_cases hx : x.tmod n < 0
  · have he : x % n = x.tmod n + n := by
      have := Int.tmod_eq_emod (a := x) (b := n)
      split at this <;> omega
    have hlo : -n ≤ x.tmod n := by omega
    rw [he]
    clear he h0 h1
    go_enter Tryd.func31, Tryd.ntmps31
    go_wp2
    go_ret
    exact ⟨rfl, rfl⟩
  · have he : x % n = x.tmod n := by
      have := Int.tmod_eq_emod (a := x) (b := n)
      split at this <;> omega
    rw [he]
    clear he h0 h1
    go_enter Tryd.func31, Tryd.ntmps31
    go_wp2
    go_ret
    exact ⟨rfl, rfl⟩
section
variable (x0 x1 x2 x3 x4 x5 x6 x7 n : Int)
set_option maxRecDepth 100000 in
set_option maxHeartbeats 2000000 in
theorem root_any (w : World) : Calls Tryd.prog 19 #[.agg #[.int .i64 x0, .int .i64 x1, .int .i64 x2, .int .i64 x3, .int .i64 x4, .int .i64 x5, .int .i64 x6, .int .i64 x7], .int .i64 n] w fun e w' => e = .returned (.tuple #[.agg #[.int .i64 (sel (rootOk (rightB [x0, x1, x2, x3, x4, x5, x6, x7]) [x0, x1, x2, x3, x4, x5, x6, x7] n) (x0.tdiv n)), .int .i64 (sel (rootOk (rightB [x0, x1, x2, x3, x4, x5, x6, x7]) [x0, x1, x2, x3, x4, x5, x6, x7] n) (x1.tdiv n)), .int .i64 (sel (rootOk (rightB [x0, x1, x2, x3, x4, x5, x6, x7]) [x0, x1, x2, x3, x4, x5, x6, x7] n) (x2.tdiv n)), .int .i64 (sel (rootOk (rightB [x0, x1, x2, x3, x4, x5, x6, x7]) [x0, x1, x2, x3, x4, x5, x6, x7] n) (x3.tdiv n)), .int .i64 (sel (rootOk (rightB [x0, x1, x2, x3, x4, x5, x6, x7]) [x0, x1, x2, x3, x4, x5, x6, x7] n) (x4.tdiv n)), .int .i64 (sel (rootOk (rightB [x0, x1, x2, x3, x4, x5, x6, x7]) [x0, x1, x2, x3, x4, x5, x6, x7] n) (x5.tdiv n)), .int .i64 (sel (rootOk (rightB [x0, x1, x2, x3, x4, x5, x6, x7]) [x0, x1, x2, x3, x4, x5, x6, x7] n) (x6.tdiv n)), .int .i64 (sel (rootOk (rightB [x0, x1, x2, x3, x4, x5, x6, x7]) [x0, x1, x2, x3, x4, x5, x6, x7] n) (x7.tdiv n))], .int .i64 (rootErr (rightB [x0, x1, x2, x3, x4, x5, x6, x7]) [x0, x1, x2, x3, x4, x5, x6, x7] n)]) ∧ Below w.heap.size w w' := by
  have HA := hide (right_any x0 x1 x2 x3 x4 x5 x6 x7)
  have HG := hide (rightB_get (l := [x0, x1, x2, x3, x4, x5, x6, x7]))
  have HD := hide (fun k x hk h => divB_false (l := [x0, x1, x2, x3, x4, x5, x6, x7]) (n := n) k x hk h)
  have HE := hide (show (x0.tmod n != 0) = false ∧ (x1.tmod n != 0) = false ∧ (x2.tmod n != 0) = false ∧ (x3.tmod n != 0) = false ∧ (x4.tmod n != 0) = false ∧ (x5.tmod n != 0) = false ∧ (x6.tmod n != 0) = false ∧ (x7.tmod n != 0) = false → divB [x0, x1, x2, x3, x4, x5, x6, x7] n = true from fun h => by simpa [divB] using h)
  unfold rootOk rootErr
  generalize hr : rightB [x0, x1, x2, x3, x4, x5, x6, x7] = r at *
  cases r with
  | false =>
    clear hr
    simp only [Bool.false_and, sel_false, Bool.false_eq_true, if_false]
    go_enter Tryd.func19, Tryd.ntmps19
    go_wp2_with (go_at_call 13; refine (unhide HA _).mono ?_; rintro e w' ⟨rfl, rfl⟩)
    exact bodyPost_ret (v := .tuple #[.agg #[.int .i64 0, .int .i64 0, .int .i64 0, .int .i64 0, .int .i64 0, .int .i64 0, .int .i64 0, .int .i64 0], .int .i64 1]) (by simp [results, Tryd.results19, go_sem]) rfl ⟨rfl, by repeat (first | exact Below.refl _ _ | (refine Below.alloc ?_ (by simp <;> omega) _))⟩
  | true =>
    by_cases hn : n < 1
    · have hd : decide (1 ≤ n) = false := by simp; omega
      clear hr
      simp only [hd, Bool.and_false, Bool.false_and, sel_false, Bool.false_eq_true, if_false]
      clear hd
      go_enter Tryd.func19, Tryd.ntmps19
      go_wp2_with (go_at_call 13; refine (unhide HA _).mono ?_; rintro e w' ⟨rfl, rfl⟩)
      exact bodyPost_ret (v := .tuple #[.agg #[.int .i64 0, .int .i64 0, .int .i64 0, .int .i64 0, .int .i64 0, .int .i64 0, .int .i64 0, .int .i64 0], .int .i64 1]) (by simp [results, Tryd.results19, go_sem]) rfl ⟨rfl, by repeat (first | exact Below.refl _ _ | (refine Below.alloc ?_ (by simp <;> omega) _))⟩
    · have hd : decide (1 ≤ n) = true := by simp; omega
      have hb := unhide HG rfl
      clear hr
      simp only [hd, Bool.true_and, if_true]
      clear hd
      have m0 := wrap_div (n := n) (hb 0 x0 rfl)
      have m1 := wrap_div (n := n) (hb 1 x1 rfl)
      have m2 := wrap_div (n := n) (hb 2 x2 rfl)
      have m3 := wrap_div (n := n) (hb 3 x3 rfl)
      have m4 := wrap_div (n := n) (hb 4 x4 rfl)
      have m5 := wrap_div (n := n) (hb 5 x5 rfl)
      have m6 := wrap_div (n := n) (hb 6 x6 rfl)
      have m7 := wrap_div (n := n) (hb 7 x7 rfl)
      have i0 := idx0 x0 x1 x2 x3 x4 x5 x6 x7
      have i1 := idx1 x0 x1 x2 x3 x4 x5 x6 x7
      have i2 := idx2 x0 x1 x2 x3 x4 x5 x6 x7
      have i3 := idx3 x0 x1 x2 x3 x4 x5 x6 x7
      have i4 := idx4 x0 x1 x2 x3 x4 x5 x6 x7
      have i5 := idx5 x0 x1 x2 x3 x4 x5 x6 x7
      have i6 := idx6 x0 x1 x2 x3 x4 x5 x6 x7
      have i7 := idx7 x0 x1 x2 x3 x4 x5 x6 x7
      clear hb HG
      go_enter Tryd.func19, Tryd.ntmps19
      go_wp2_with (go_at_call 13; refine (unhide HA _).mono ?_; rintro e w' ⟨rfl, rfl⟩)
      refine wp_loop_rounds 9 ?_
      repeat any_goals (rw [rounds_succ]; go_wp2)
      · have hk : (x0.tmod n != 0) = true := by assumption
        exact bodyPost_ret (v := .tuple #[.agg #[.int .i64 0, .int .i64 0, .int .i64 0, .int .i64 0, .int .i64 0, .int .i64 0, .int .i64 0, .int .i64 0], .int .i64 10]) (by simp [results, Tryd.results19, go_sem]) rfl ⟨by rw [unhide HD 0 x0 rfl hk]; rfl, by repeat (first | exact Below.refl _ _ | (refine Below.alloc ?_ (by simp <;> omega) _))⟩
      · have hk : (x1.tmod n != 0) = true := by assumption
        exact bodyPost_ret (v := .tuple #[.agg #[.int .i64 0, .int .i64 0, .int .i64 0, .int .i64 0, .int .i64 0, .int .i64 0, .int .i64 0, .int .i64 0], .int .i64 10]) (by simp [results, Tryd.results19, go_sem]) rfl ⟨by rw [unhide HD 1 x1 rfl hk]; rfl, by repeat (first | exact Below.refl _ _ | (refine Below.alloc ?_ (by simp <;> omega) _))⟩
      · have hk : (x2.tmod n != 0) = true := by assumption
        exact bodyPost_ret (v := .tuple #[.agg #[.int .i64 0, .int .i64 0, .int .i64 0, .int .i64 0, .int .i64 0, .int .i64 0, .int .i64 0, .int .i64 0], .int .i64 10]) (by simp [results, Tryd.results19, go_sem]) rfl ⟨by rw [unhide HD 2 x2 rfl hk]; rfl, by repeat (first | exact Below.refl _ _ | (refine Below.alloc ?_ (by simp <;> omega) _))⟩
      · have hk : (x3.tmod n != 0) = true := by assumption
        exact bodyPost_ret (v := .tuple #[.agg #[.int .i64 0, .int .i64 0, .int .i64 0, .int .i64 0, .int .i64 0, .int .i64 0, .int .i64 0, .int .i64 0], .int .i64 10]) (by simp [results, Tryd.results19, go_sem]) rfl ⟨by rw [unhide HD 3 x3 rfl hk]; rfl, by repeat (first | exact Below.refl _ _ | (refine Below.alloc ?_ (by simp <;> omega) _))⟩
      · have hk : (x4.tmod n != 0) = true := by assumption
        exact bodyPost_ret (v := .tuple #[.agg #[.int .i64 0, .int .i64 0, .int .i64 0, .int .i64 0, .int .i64 0, .int .i64 0, .int .i64 0, .int .i64 0], .int .i64 10]) (by simp [results, Tryd.results19, go_sem]) rfl ⟨by rw [unhide HD 4 x4 rfl hk]; rfl, by repeat (first | exact Below.refl _ _ | (refine Below.alloc ?_ (by simp <;> omega) _))⟩
      · have hk : (x5.tmod n != 0) = true := by assumption
        exact bodyPost_ret (v := .tuple #[.agg #[.int .i64 0, .int .i64 0, .int .i64 0, .int .i64 0, .int .i64 0, .int .i64 0, .int .i64 0, .int .i64 0], .int .i64 10]) (by simp [results, Tryd.results19, go_sem]) rfl ⟨by rw [unhide HD 5 x5 rfl hk]; rfl, by repeat (first | exact Below.refl _ _ | (refine Below.alloc ?_ (by simp <;> omega) _))⟩
      · have hk : (x6.tmod n != 0) = true := by assumption
        exact bodyPost_ret (v := .tuple #[.agg #[.int .i64 0, .int .i64 0, .int .i64 0, .int .i64 0, .int .i64 0, .int .i64 0, .int .i64 0, .int .i64 0], .int .i64 10]) (by simp [results, Tryd.results19, go_sem]) rfl ⟨by rw [unhide HD 6 x6 rfl hk]; rfl, by repeat (first | exact Below.refl _ _ | (refine Below.alloc ?_ (by simp <;> omega) _))⟩
      · have hk : (x7.tmod n != 0) = true := by assumption
        exact bodyPost_ret (v := .tuple #[.agg #[.int .i64 0, .int .i64 0, .int .i64 0, .int .i64 0, .int .i64 0, .int .i64 0, .int .i64 0, .int .i64 0], .int .i64 10]) (by simp [results, Tryd.results19, go_sem]) rfl ⟨by rw [unhide HD 7 x7 rfl hk]; rfl, by repeat (first | exact Below.refl _ _ | (refine Below.alloc ?_ (by simp <;> omega) _))⟩
      · exact bodyPost_ret (v := .tuple #[.agg #[.int .i64 (x0.tdiv n), .int .i64 (x1.tdiv n), .int .i64 (x2.tdiv n), .int .i64 (x3.tdiv n), .int .i64 (x4.tdiv n), .int .i64 (x5.tdiv n), .int .i64 (x6.tdiv n), .int .i64 (x7.tdiv n)], .int .i64 0]) (by simp [results, Tryd.results19, go_sem]) rfl ⟨by rw [unhide HE ⟨by assumption, by assumption, by assumption, by assumption, by assumption, by assumption, by assumption, by assumption⟩]; rfl, by repeat (first | exact Below.refl _ _ | (refine Below.alloc ?_ (by simp <;> omega) _))⟩
end
end Go.Proofs.YtccnbnfafhpeaaaDoor
