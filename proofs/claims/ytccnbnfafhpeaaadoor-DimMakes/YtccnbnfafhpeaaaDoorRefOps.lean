/- The document's own Pow and Root. -/
import Derived.Test.YtccnbnfafhpeaaaDoorRoot
import Derived.Test.YtccnbnfafhpeaaaDoorRef
namespace Go.Proofs.YtccnbnfafhpeaaaDoor
open Go.RowKit

/-- An exponent above 1000 does as 1000. -/
def clampN (n : Int) : Int := if 1000 < n then 1000 else if n < -1000 then -1000 else n
theorem clamp_far {n : Int} (h : n ≠ clampN n) : (n < -99 ∨ 99 < n) ∧ (clampN n < -99 ∨ 99 < clampN n) := by
  unfold clampN at h ⊢
  by_cases h1 : 1000 < n
  · rw [if_pos h1]; omega
  · rw [if_neg h1] at h ⊢
    by_cases h2 : n < -1000
    · rw [if_pos h2]; omega
    · rw [if_neg h2] at h; exact absurd rfl h
section
variable (x0 x1 x2 x3 x4 x5 x6 x7 n : Int)
theorem clamp_right : rightB [x0 * clampN n, x1 * clampN n, x2 * clampN n, x3 * clampN n, x4 * clampN n, x5 * clampN n, x6 * clampN n, x7 * clampN n] = rightB [x0 * n, x1 * n, x2 * n, x3 * n, x4 * n, x5 * n, x6 * n, x7 * n] := by
  by_cases h : n = clampN n
  · rw [← h]
  · obtain ⟨h1, h2⟩ := clamp_far h
    cases hz : eqB [x0, x1, x2, x3, x4, x5, x6, x7] [0, 0, 0, 0, 0, 0, 0, 0] with
    | true =>
      have hz' : x0 = 0 ∧ x1 = 0 ∧ x2 = 0 ∧ x3 = 0 ∧ x4 = 0 ∧ x5 = 0 ∧ x6 = 0 ∧ x7 = 0 := by simpa [eqB] using hz
      obtain ⟨rfl, rfl, rfl, rfl, rfl, rfl, rfl, rfl⟩ := hz'
      simp
    | false => rw [far_right x0 x1 x2 x3 x4 x5 x6 x7 _ hz h2, far_right x0 x1 x2 x3 x4 x5 x6 x7 _ hz h1]
theorem clamp_sel (v : Int) (h : rightB [x0 * n, x1 * n, x2 * n, x3 * n, x4 * n, x5 * n, x6 * n, x7 * n] = true) (hv : v ∈ [x0, x1, x2, x3, x4, x5, x6, x7]) : v * clampN n = v * n := by
  by_cases he : n = clampN n
  · rw [← he]
  · obtain ⟨h1, h2⟩ := clamp_far he
    cases hz : eqB [x0, x1, x2, x3, x4, x5, x6, x7] [0, 0, 0, 0, 0, 0, 0, 0] with
    | true =>
      have hz' : [x0, x1, x2, x3, x4, x5, x6, x7] = [0, 0, 0, 0, 0, 0, 0, 0] := by simpa [eqB] using hz
      rw [hz'] at hv
      have : v = 0 := by simpa using hv
      rw [this, Int.zero_mul, Int.zero_mul]
    | false => rw [far_right x0 x1 x2 x3 x4 x5 x6 x7 _ hz h1] at h; cases h
set_option maxRecDepth 100000 in
set_option maxHeartbeats 2000000 in
theorem rpow_core (k : Int) (w : World) (hr : rightB [x0, x1, x2, x3, x4, x5, x6, x7] = true) (hk : k = clampN n) : Calls Tryd.prog 18 #[.agg #[.int .i64 x0, .int .i64 x1, .int .i64 x2, .int .i64 x3, .int .i64 x4, .int .i64 x5, .int .i64 x6, .int .i64 x7], .int .i64 n] w fun e w' => e = .returned (.tuple #[.agg #[.int .i64 (sel (rightB [x0 * k, x1 * k, x2 * k, x3 * k, x4 * k, x5 * k, x6 * k, x7 * k]) (x0 * k)), .int .i64 (sel (rightB [x0 * k, x1 * k, x2 * k, x3 * k, x4 * k, x5 * k, x6 * k, x7 * k]) (x1 * k)), .int .i64 (sel (rightB [x0 * k, x1 * k, x2 * k, x3 * k, x4 * k, x5 * k, x6 * k, x7 * k]) (x2 * k)), .int .i64 (sel (rightB [x0 * k, x1 * k, x2 * k, x3 * k, x4 * k, x5 * k, x6 * k, x7 * k]) (x3 * k)), .int .i64 (sel (rightB [x0 * k, x1 * k, x2 * k, x3 * k, x4 * k, x5 * k, x6 * k, x7 * k]) (x4 * k)), .int .i64 (sel (rightB [x0 * k, x1 * k, x2 * k, x3 * k, x4 * k, x5 * k, x6 * k, x7 * k]) (x5 * k)), .int .i64 (sel (rightB [x0 * k, x1 * k, x2 * k, x3 * k, x4 * k, x5 * k, x6 * k, x7 * k]) (x6 * k)), .int .i64 (sel (rightB [x0 * k, x1 * k, x2 * k, x3 * k, x4 * k, x5 * k, x6 * k, x7 * k]) (x7 * k))], .int .i64 (errOf (rightB [x0 * k, x1 * k, x2 * k, x3 * k, x4 * k, x5 * k, x6 * k, x7 * k]) 51)]) ∧ Below w.heap.size w w' := by
  have HA := hide (rright_any x0 x1 x2 x3 x4 x5 x6 x7)
  have HT := hide (rtold_any (x0 * k) (x1 * k) (x2 * k) (x3 * k) (x4 * k) (x5 * k) (x6 * k) (x7 * k))
  have hb := rightB_get hr
  rw [hr] at HA
  have hkb : -1000 ≤ k ∧ k ≤ 1000 := by rw [hk]; unfold clampN; split <;> (try split) <;> omega
  have m0 := wrap_mul (n := k) (hb 0 x0 rfl) hkb
  have m1 := wrap_mul (n := k) (hb 1 x1 rfl) hkb
  have m2 := wrap_mul (n := k) (hb 2 x2 rfl) hkb
  have m3 := wrap_mul (n := k) (hb 3 x3 rfl) hkb
  have m4 := wrap_mul (n := k) (hb 4 x4 rfl) hkb
  have m5 := wrap_mul (n := k) (hb 5 x5 rfl) hkb
  have m6 := wrap_mul (n := k) (hb 6 x6 rfl) hkb
  have m7 := wrap_mul (n := k) (hb 7 x7 rfl) hkb
  clear hb hr
  generalize rightB [x0 * k, x1 * k, x2 * k, x3 * k, x4 * k, x5 * k, x6 * k, x7 * k] = rq at *
  unfold clampN at hk
  by_cases h1 : 1000 < n
  · rw [if_pos h1] at hk
    subst hk
    go_enter Tryd.func18, Tryd.ntmps18
    go_wp2_with (go_at_call 14; refine (unhide HA _).mono ?_; rintro e w' ⟨rfl, rfl⟩)
    refine wp_loop_rounds 9 ?_
    repeat any_goals (rw [rounds_succ]; go_wp2_with (go_at_call 40; refine (unhide HT _).mono ?_; rintro e w' ⟨rfl, rfl⟩))
    exact bodyPost_ret (v := .tuple #[.agg #[.int .i64 (sel rq (x0 * 1000)), .int .i64 (sel rq (x1 * 1000)), .int .i64 (sel rq (x2 * 1000)), .int .i64 (sel rq (x3 * 1000)), .int .i64 (sel rq (x4 * 1000)), .int .i64 (sel rq (x5 * 1000)), .int .i64 (sel rq (x6 * 1000)), .int .i64 (sel rq (x7 * 1000))], .int .i64 (errOf rq 51)]) (by simp [results, Tryd.results18, go_sem]) rfl ⟨rfl, by repeat (first | exact Below.refl _ _ | (refine Below.alloc ?_ (by simp <;> omega) _))⟩
  · rw [if_neg h1] at hk
    by_cases h2 : n < -1000
    · rw [if_pos h2] at hk
      subst hk
      go_enter Tryd.func18, Tryd.ntmps18
      go_wp2_with (go_at_call 14; refine (unhide HA _).mono ?_; rintro e w' ⟨rfl, rfl⟩)
      refine wp_loop_rounds 9 ?_
      repeat any_goals (rw [rounds_succ]; go_wp2_with (go_at_call 40; refine (unhide HT _).mono ?_; rintro e w' ⟨rfl, rfl⟩))
      exact bodyPost_ret (v := .tuple #[.agg #[.int .i64 (sel rq (x0 * -1000)), .int .i64 (sel rq (x1 * -1000)), .int .i64 (sel rq (x2 * -1000)), .int .i64 (sel rq (x3 * -1000)), .int .i64 (sel rq (x4 * -1000)), .int .i64 (sel rq (x5 * -1000)), .int .i64 (sel rq (x6 * -1000)), .int .i64 (sel rq (x7 * -1000))], .int .i64 (errOf rq 51)]) (by simp [results, Tryd.results18, go_sem]) rfl ⟨rfl, by repeat (first | exact Below.refl _ _ | (refine Below.alloc ?_ (by simp <;> omega) _))⟩
    · rw [if_neg h2] at hk
      subst hk
      go_enter Tryd.func18, Tryd.ntmps18
      go_wp2_with (go_at_call 14; refine (unhide HA _).mono ?_; rintro e w' ⟨rfl, rfl⟩)
      refine wp_loop_rounds 9 ?_
      repeat any_goals (rw [rounds_succ]; go_wp2_with (go_at_call 40; refine (unhide HT _).mono ?_; rintro e w' ⟨rfl, rfl⟩))
      exact bodyPost_ret (v := .tuple #[.agg #[.int .i64 (sel rq (x0 * k)), .int .i64 (sel rq (x1 * k)), .int .i64 (sel rq (x2 * k)), .int .i64 (sel rq (x3 * k)), .int .i64 (sel rq (x4 * k)), .int .i64 (sel rq (x5 * k)), .int .i64 (sel rq (x6 * k)), .int .i64 (sel rq (x7 * k))], .int .i64 (errOf rq 51)]) (by simp [results, Tryd.results18, go_sem]) rfl ⟨rfl, by repeat (first | exact Below.refl _ _ | (refine Below.alloc ?_ (by simp <;> omega) _))⟩
set_option maxRecDepth 100000 in
set_option maxHeartbeats 2000000 in
theorem rpow_any (w : World) : Calls Tryd.prog 18 #[.agg #[.int .i64 x0, .int .i64 x1, .int .i64 x2, .int .i64 x3, .int .i64 x4, .int .i64 x5, .int .i64 x6, .int .i64 x7], .int .i64 n] w fun e w' => e = .returned (.tuple #[.agg #[.int .i64 (sel (rightB [x0, x1, x2, x3, x4, x5, x6, x7] && rightB [x0 * n, x1 * n, x2 * n, x3 * n, x4 * n, x5 * n, x6 * n, x7 * n]) (x0 * n)), .int .i64 (sel (rightB [x0, x1, x2, x3, x4, x5, x6, x7] && rightB [x0 * n, x1 * n, x2 * n, x3 * n, x4 * n, x5 * n, x6 * n, x7 * n]) (x1 * n)), .int .i64 (sel (rightB [x0, x1, x2, x3, x4, x5, x6, x7] && rightB [x0 * n, x1 * n, x2 * n, x3 * n, x4 * n, x5 * n, x6 * n, x7 * n]) (x2 * n)), .int .i64 (sel (rightB [x0, x1, x2, x3, x4, x5, x6, x7] && rightB [x0 * n, x1 * n, x2 * n, x3 * n, x4 * n, x5 * n, x6 * n, x7 * n]) (x3 * n)), .int .i64 (sel (rightB [x0, x1, x2, x3, x4, x5, x6, x7] && rightB [x0 * n, x1 * n, x2 * n, x3 * n, x4 * n, x5 * n, x6 * n, x7 * n]) (x4 * n)), .int .i64 (sel (rightB [x0, x1, x2, x3, x4, x5, x6, x7] && rightB [x0 * n, x1 * n, x2 * n, x3 * n, x4 * n, x5 * n, x6 * n, x7 * n]) (x5 * n)), .int .i64 (sel (rightB [x0, x1, x2, x3, x4, x5, x6, x7] && rightB [x0 * n, x1 * n, x2 * n, x3 * n, x4 * n, x5 * n, x6 * n, x7 * n]) (x6 * n)), .int .i64 (sel (rightB [x0, x1, x2, x3, x4, x5, x6, x7] && rightB [x0 * n, x1 * n, x2 * n, x3 * n, x4 * n, x5 * n, x6 * n, x7 * n]) (x7 * n))], .int .i64 (powErr (rightB [x0, x1, x2, x3, x4, x5, x6, x7]) [x0 * n, x1 * n, x2 * n, x3 * n, x4 * n, x5 * n, x6 * n, x7 * n])]) ∧ Below w.heap.size w w' := by
  cases hr : rightB [x0, x1, x2, x3, x4, x5, x6, x7] with
  | false =>
    have HA := hide (rright_any x0 x1 x2 x3 x4 x5 x6 x7)
    rw [hr] at HA
    unfold powErr
    simp only [Bool.false_and, sel_false, Bool.false_eq_true, if_false]
    clear hr
    go_enter Tryd.func18, Tryd.ntmps18
    go_wp2_with (go_at_call 14; refine (unhide HA _).mono ?_; rintro e w' ⟨rfl, rfl⟩)
    exact bodyPost_ret (v := .tuple #[.agg #[.int .i64 0, .int .i64 0, .int .i64 0, .int .i64 0, .int .i64 0, .int .i64 0, .int .i64 0, .int .i64 0], .int .i64 1]) (by simp [results, Tryd.results18, go_sem]) rfl ⟨rfl, by repeat (first | exact Below.refl _ _ | (refine Below.alloc ?_ (by simp <;> omega) _))⟩
  | true =>
    have h := rpow_core x0 x1 x2 x3 x4 x5 x6 x7 n (clampN n) w hr rfl
    rw [clamp_right x0 x1 x2 x3 x4 x5 x6 x7 n] at h
    unfold powErr
    simp only [Bool.true_and, if_true]
    cases hq : rightB [x0 * n, x1 * n, x2 * n, x3 * n, x4 * n, x5 * n, x6 * n, x7 * n] with
    | false => rw [hq] at h; exact h
    | true =>
      rw [hq] at h
      simp only [sel_true] at h ⊢
      rw [clamp_sel x0 x1 x2 x3 x4 x5 x6 x7 n x0 hq (by simp), clamp_sel x0 x1 x2 x3 x4 x5 x6 x7 n x1 hq (by simp), clamp_sel x0 x1 x2 x3 x4 x5 x6 x7 n x2 hq (by simp), clamp_sel x0 x1 x2 x3 x4 x5 x6 x7 n x3 hq (by simp), clamp_sel x0 x1 x2 x3 x4 x5 x6 x7 n x4 hq (by simp), clamp_sel x0 x1 x2 x3 x4 x5 x6 x7 n x5 hq (by simp), clamp_sel x0 x1 x2 x3 x4 x5 x6 x7 n x6 hq (by simp), clamp_sel x0 x1 x2 x3 x4 x5 x6 x7 n x7 hq (by simp)] at h
      exact h
set_option maxRecDepth 100000 in
set_option maxHeartbeats 2000000 in
theorem rroot_any (w : World) : Calls Tryd.prog 20 #[.agg #[.int .i64 x0, .int .i64 x1, .int .i64 x2, .int .i64 x3, .int .i64 x4, .int .i64 x5, .int .i64 x6, .int .i64 x7], .int .i64 n] w fun e w' => e = .returned (.tuple #[.agg #[.int .i64 (sel (rootOk (rightB [x0, x1, x2, x3, x4, x5, x6, x7]) [x0, x1, x2, x3, x4, x5, x6, x7] n) (x0.tdiv n)), .int .i64 (sel (rootOk (rightB [x0, x1, x2, x3, x4, x5, x6, x7]) [x0, x1, x2, x3, x4, x5, x6, x7] n) (x1.tdiv n)), .int .i64 (sel (rootOk (rightB [x0, x1, x2, x3, x4, x5, x6, x7]) [x0, x1, x2, x3, x4, x5, x6, x7] n) (x2.tdiv n)), .int .i64 (sel (rootOk (rightB [x0, x1, x2, x3, x4, x5, x6, x7]) [x0, x1, x2, x3, x4, x5, x6, x7] n) (x3.tdiv n)), .int .i64 (sel (rootOk (rightB [x0, x1, x2, x3, x4, x5, x6, x7]) [x0, x1, x2, x3, x4, x5, x6, x7] n) (x4.tdiv n)), .int .i64 (sel (rootOk (rightB [x0, x1, x2, x3, x4, x5, x6, x7]) [x0, x1, x2, x3, x4, x5, x6, x7] n) (x5.tdiv n)), .int .i64 (sel (rootOk (rightB [x0, x1, x2, x3, x4, x5, x6, x7]) [x0, x1, x2, x3, x4, x5, x6, x7] n) (x6.tdiv n)), .int .i64 (sel (rootOk (rightB [x0, x1, x2, x3, x4, x5, x6, x7]) [x0, x1, x2, x3, x4, x5, x6, x7] n) (x7.tdiv n))], .int .i64 (rootErr (rightB [x0, x1, x2, x3, x4, x5, x6, x7]) [x0, x1, x2, x3, x4, x5, x6, x7] n)]) ∧ Below w.heap.size w w' := by
  have HA := hide (rright_any x0 x1 x2 x3 x4 x5 x6 x7)
  have HG := hide (rightB_get (l := [x0, x1, x2, x3, x4, x5, x6, x7]))
  have HD := hide (fun k x hk h => divB_false (l := [x0, x1, x2, x3, x4, x5, x6, x7]) (n := n) k x hk h)
  have HE := hide (show (x0.tmod n != 0) = false ∧ (x1.tmod n != 0) = false ∧ (x2.tmod n != 0) = false ∧ (x3.tmod n != 0) = false ∧ (x4.tmod n != 0) = false ∧ (x5.tmod n != 0) = false ∧ (x6.tmod n != 0) = false ∧ (x7.tmod n != 0) = false → divB [x0, x1, x2, x3, x4, x5, x6, x7] n = true from fun h => by simpa [divB] using h)
  unfold rootOk rootErr
  generalize hr : rightB [x0, x1, x2, x3, x4, x5, x6, x7] = r at *
  cases r with
  | false =>
    clear hr
    simp only [Bool.false_and, sel_false, Bool.false_eq_true, if_false]
    go_enter Tryd.func20, Tryd.ntmps20
    go_wp2_with (go_at_call 14; refine (unhide HA _).mono ?_; rintro e w' ⟨rfl, rfl⟩)
    exact bodyPost_ret (v := .tuple #[.agg #[.int .i64 0, .int .i64 0, .int .i64 0, .int .i64 0, .int .i64 0, .int .i64 0, .int .i64 0, .int .i64 0], .int .i64 1]) (by simp [results, Tryd.results20, go_sem]) rfl ⟨rfl, by repeat (first | exact Below.refl _ _ | (refine Below.alloc ?_ (by simp <;> omega) _))⟩
  | true =>
    by_cases hn : n < 1
    · have hd : decide (1 ≤ n) = false := by simp; omega
      clear hr
      simp only [hd, Bool.and_false, Bool.false_and, sel_false, Bool.false_eq_true, if_false]
      clear hd
      go_enter Tryd.func20, Tryd.ntmps20
      go_wp2_with (go_at_call 14; refine (unhide HA _).mono ?_; rintro e w' ⟨rfl, rfl⟩)
      exact bodyPost_ret (v := .tuple #[.agg #[.int .i64 0, .int .i64 0, .int .i64 0, .int .i64 0, .int .i64 0, .int .i64 0, .int .i64 0, .int .i64 0], .int .i64 1]) (by simp [results, Tryd.results20, go_sem]) rfl ⟨rfl, by repeat (first | exact Below.refl _ _ | (refine Below.alloc ?_ (by simp <;> omega) _))⟩
    · have hd : decide (1 ≤ n) = true := by simp; omega
      have hb := unhide HG rfl
      clear hr
      simp only [hd, Bool.true_and, if_true]
      clear hd
      have m0 := wrap_div (n := n) (hb 0 x0 rfl)
      have m1 := wrap_div (n := n) (hb 1 x1 rfl)
      have m2 := wrap_div (n := n) (hb 2 x2 rfl)
      have m3 := wrap_div (n := n) (hb 3 x3 rfl)
      have m4 := wrap_div (n := n) (hb 4 x4 rfl)
      have m5 := wrap_div (n := n) (hb 5 x5 rfl)
      have m6 := wrap_div (n := n) (hb 6 x6 rfl)
      have m7 := wrap_div (n := n) (hb 7 x7 rfl)
      clear hb HG
      go_enter Tryd.func20, Tryd.ntmps20
      go_wp2_with (go_at_call 14; refine (unhide HA _).mono ?_; rintro e w' ⟨rfl, rfl⟩)
      refine wp_loop_rounds 9 ?_
      repeat any_goals (rw [rounds_succ]; go_wp2)
      · have hk : (x0.tmod n != 0) = true := by assumption
        exact bodyPost_ret (v := .tuple #[.agg #[.int .i64 0, .int .i64 0, .int .i64 0, .int .i64 0, .int .i64 0, .int .i64 0, .int .i64 0, .int .i64 0], .int .i64 10]) (by simp [results, Tryd.results20, go_sem]) rfl ⟨by rw [unhide HD 0 x0 rfl hk]; rfl, by repeat (first | exact Below.refl _ _ | (refine Below.alloc ?_ (by simp <;> omega) _))⟩
      · have hk : (x1.tmod n != 0) = true := by assumption
        exact bodyPost_ret (v := .tuple #[.agg #[.int .i64 0, .int .i64 0, .int .i64 0, .int .i64 0, .int .i64 0, .int .i64 0, .int .i64 0, .int .i64 0], .int .i64 10]) (by simp [results, Tryd.results20, go_sem]) rfl ⟨by rw [unhide HD 1 x1 rfl hk]; rfl, by repeat (first | exact Below.refl _ _ | (refine Below.alloc ?_ (by simp <;> omega) _))⟩
      · have hk : (x2.tmod n != 0) = true := by assumption
        exact bodyPost_ret (v := .tuple #[.agg #[.int .i64 0, .int .i64 0, .int .i64 0, .int .i64 0, .int .i64 0, .int .i64 0, .int .i64 0, .int .i64 0], .int .i64 10]) (by simp [results, Tryd.results20, go_sem]) rfl ⟨by rw [unhide HD 2 x2 rfl hk]; rfl, by repeat (first | exact Below.refl _ _ | (refine Below.alloc ?_ (by simp <;> omega) _))⟩
      · have hk : (x3.tmod n != 0) = true := by assumption
        exact bodyPost_ret (v := .tuple #[.agg #[.int .i64 0, .int .i64 0, .int .i64 0, .int .i64 0, .int .i64 0, .int .i64 0, .int .i64 0, .int .i64 0], .int .i64 10]) (by simp [results, Tryd.results20, go_sem]) rfl ⟨by rw [unhide HD 3 x3 rfl hk]; rfl, by repeat (first | exact Below.refl _ _ | (refine Below.alloc ?_ (by simp <;> omega) _))⟩
      · have hk : (x4.tmod n != 0) = true := by assumption
        exact bodyPost_ret (v := .tuple #[.agg #[.int .i64 0, .int .i64 0, .int .i64 0, .int .i64 0, .int .i64 0, .int .i64 0, .int .i64 0, .int .i64 0], .int .i64 10]) (by simp [results, Tryd.results20, go_sem]) rfl ⟨by rw [unhide HD 4 x4 rfl hk]; rfl, by repeat (first | exact Below.refl _ _ | (refine Below.alloc ?_ (by simp <;> omega) _))⟩
      · have hk : (x5.tmod n != 0) = true := by assumption
        exact bodyPost_ret (v := .tuple #[.agg #[.int .i64 0, .int .i64 0, .int .i64 0, .int .i64 0, .int .i64 0, .int .i64 0, .int .i64 0, .int .i64 0], .int .i64 10]) (by simp [results, Tryd.results20, go_sem]) rfl ⟨by rw [unhide HD 5 x5 rfl hk]; rfl, by repeat (first | exact Below.refl _ _ | (refine Below.alloc ?_ (by simp <;> omega) _))⟩
      · have hk : (x6.tmod n != 0) = true := by assumption
        exact bodyPost_ret (v := .tuple #[.agg #[.int .i64 0, .int .i64 0, .int .i64 0, .int .i64 0, .int .i64 0, .int .i64 0, .int .i64 0, .int .i64 0], .int .i64 10]) (by simp [results, Tryd.results20, go_sem]) rfl ⟨by rw [unhide HD 6 x6 rfl hk]; rfl, by repeat (first | exact Below.refl _ _ | (refine Below.alloc ?_ (by simp <;> omega) _))⟩
      · have hk : (x7.tmod n != 0) = true := by assumption
        exact bodyPost_ret (v := .tuple #[.agg #[.int .i64 0, .int .i64 0, .int .i64 0, .int .i64 0, .int .i64 0, .int .i64 0, .int .i64 0, .int .i64 0], .int .i64 10]) (by simp [results, Tryd.results20, go_sem]) rfl ⟨by rw [unhide HD 7 x7 rfl hk]; rfl, by repeat (first | exact Below.refl _ _ | (refine Below.alloc ?_ (by simp <;> omega) _))⟩
      · exact bodyPost_ret (v := .tuple #[.agg #[.int .i64 (x0.tdiv n), .int .i64 (x1.tdiv n), .int .i64 (x2.tdiv n), .int .i64 (x3.tdiv n), .int .i64 (x4.tdiv n), .int .i64 (x5.tdiv n), .int .i64 (x6.tdiv n), .int .i64 (x7.tdiv n)], .int .i64 0]) (by simp [results, Tryd.results20, go_sem]) rfl ⟨by rw [unhide HE ⟨by assumption, by assumption, by assumption, by assumption, by assumption, by assumption, by assumption, by assumption⟩]; rfl, by repeat (first | exact Below.refl _ _ | (refine Below.alloc ?_ (by simp <;> omega) _))⟩
end
end Go.Proofs.YtccnbnfafhpeaaaDoor
