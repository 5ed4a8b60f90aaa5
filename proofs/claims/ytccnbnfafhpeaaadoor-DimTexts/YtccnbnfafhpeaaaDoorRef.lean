/- The law's small; the document's Right, told, Quo, Pow, Root. -/
import Derived.Test.YtccnbnfafhpeaaaDoorRoot
namespace Go.Proofs.YtccnbnfafhpeaaaDoor
open Go.RowKit

theorem mod_bd (x n : Int) (h : 1 ≤ n) : 0 ≤ x % n ∧ x % n < n := ⟨Int.emod_nonneg x (by omega), Int.emod_lt_of_pos x (by omega)⟩
section
variable (x0 x1 x2 x3 x4 x5 x6 x7 n : Int)
set_option maxRecDepth 100000 in
set_option maxHeartbeats 2000000 in
theorem small_any (w : World) (hn : 1 ≤ n ∧ n ≤ 200) : Calls Tryd.prog 30 #[.agg #[.int .i64 x0, .int .i64 x1, .int .i64 x2, .int .i64 x3, .int .i64 x4, .int .i64 x5, .int .i64 x6, .int .i64 x7], .int .i64 n] w fun e w' => e = .returned (.agg #[.int .i64 (x0 % (2 * n + 1) - n), .int .i64 (x1 % (2 * n + 1) - n), .int .i64 (x2 % (2 * n + 1) - n), .int .i64 (x3 % (2 * n + 1) - n), .int .i64 (x4 % (2 * n + 1) - n), .int .i64 (x5 % (2 * n + 1) - n), .int .i64 (x6 % (2 * n + 1) - n), .int .i64 (x7 % (2 * n + 1) - n)]) ∧ Below w.heap.size w w' := by
  have b0 := mod_bd x0 (2 * n + 1) (by omega)
  have b1 := mod_bd x1 (2 * n + 1) (by omega)
  have b2 := mod_bd x2 (2 * n + 1) (by omega)
  have b3 := mod_bd x3 (2 * n + 1) (by omega)
  have b4 := mod_bd x4 (2 * n + 1) (by omega)
  have b5 := mod_bd x5 (2 * n + 1) (by omega)
  have b6 := mod_bd x6 (2 * n + 1) (by omega)
  have b7 := mod_bd x7 (2 * n + 1) (by omega)
  go_enter Tryd.func30, Tryd.ntmps30
  go_wp2_with fail
  refine wp_loop_rounds 9 ?_
  repeat any_goals (rw [rounds_succ]; go_wp2_with (go_at_call 31; refine (count_any _ _ _ (by omega)).mono ?_; rintro e w' ⟨rfl, rfl⟩))
  exact bodyPost_ret (v := .agg #[.int .i64 (x0 % (2 * n + 1) - n), .int .i64 (x1 % (2 * n + 1) - n), .int .i64 (x2 % (2 * n + 1) - n), .int .i64 (x3 % (2 * n + 1) - n), .int .i64 (x4 % (2 * n + 1) - n), .int .i64 (x5 % (2 * n + 1) - n), .int .i64 (x6 % (2 * n + 1) - n), .int .i64 (x7 % (2 * n + 1) - n)]) (by simp [results, Tryd.results30, go_sem]) rfl ⟨rfl, by repeat (first | exact Below.refl _ _ | (refine Below.alloc ?_ (by simp <;> omega) _))⟩

set_option maxRecDepth 100000 in
set_option maxHeartbeats 1000000 in
theorem rright_any (w : World) : Calls Tryd.prog 14 #[.agg #[.int .i64 x0, .int .i64 x1, .int .i64 x2, .int .i64 x3, .int .i64 x4, .int .i64 x5, .int .i64 x6, .int .i64 x7]] w fun e w' => e = .returned (.bool (rightB [x0, x1, x2, x3, x4, x5, x6, x7])) ∧ w' = w.alloc (.cells #[.int .i64 x0, .int .i64 x1, .int .i64 x2, .int .i64 x3, .int .i64 x4, .int .i64 x5, .int .i64 x6, .int .i64 x7] 24) := by
  generalize hl : [x0, x1, x2, x3, x4, x5, x6, x7] = l
  have HL := hide hl
  clear hl
  go_enter Tryd.func14, Tryd.ntmps14
  go_wp2
  go_loop [3] (fun i => ∃ k : Nat, k ≤ 8 ∧ i = .int .i64 k ∧ OkTo l k) (fun i => 8 - (intOf i).toNat)
  case atStart => exact ⟨0, Nat.zero_le _, rfl, OkTo.zero _⟩
  case round =>
    obtain ⟨k, hk, rfl, hto⟩ := hrel
    have HO := hide hto
    clear hto
    rcases eight hk with rfl | rfl | rfl | rfl | rfl | rfl | rfl | rfl | rfl
    · go_wp2
      · go_ret
        exact ⟨ret_bool (rightB_false 0 x0 (by rw [← unhide HL]; rfl) (okB_hi (by omega))).symm, rfl⟩
      · exact ⟨⟨1, by omega, rfl, (unhide HO).step (by rw [← unhide HL]; rfl) (okB_yes (x := x0) (by omega) (by omega))⟩, by simp [intOf]⟩
      · go_ret
        exact ⟨ret_bool (rightB_false 0 x0 (by rw [← unhide HL]; rfl) (okB_lo (by omega))).symm, rfl⟩
    · go_wp2
      · go_ret
        exact ⟨ret_bool (rightB_false 1 x1 (by rw [← unhide HL]; rfl) (okB_hi (by omega))).symm, rfl⟩
      · exact ⟨⟨2, by omega, rfl, (unhide HO).step (by rw [← unhide HL]; rfl) (okB_yes (x := x1) (by omega) (by omega))⟩, by simp [intOf]⟩
      · go_ret
        exact ⟨ret_bool (rightB_false 1 x1 (by rw [← unhide HL]; rfl) (okB_lo (by omega))).symm, rfl⟩
    · go_wp2
      · go_ret
        exact ⟨ret_bool (rightB_false 2 x2 (by rw [← unhide HL]; rfl) (okB_hi (by omega))).symm, rfl⟩
      · exact ⟨⟨3, by omega, rfl, (unhide HO).step (by rw [← unhide HL]; rfl) (okB_yes (x := x2) (by omega) (by omega))⟩, by simp [intOf]⟩
      · go_ret
        exact ⟨ret_bool (rightB_false 2 x2 (by rw [← unhide HL]; rfl) (okB_lo (by omega))).symm, rfl⟩
    · go_wp2
      · go_ret
        exact ⟨ret_bool (rightB_false 3 x3 (by rw [← unhide HL]; rfl) (okB_hi (by omega))).symm, rfl⟩
      · exact ⟨⟨4, by omega, rfl, (unhide HO).step (by rw [← unhide HL]; rfl) (okB_yes (x := x3) (by omega) (by omega))⟩, by simp [intOf]⟩
      · go_ret
        exact ⟨ret_bool (rightB_false 3 x3 (by rw [← unhide HL]; rfl) (okB_lo (by omega))).symm, rfl⟩
    · go_wp2
      · go_ret
        exact ⟨ret_bool (rightB_false 4 x4 (by rw [← unhide HL]; rfl) (okB_hi (by omega))).symm, rfl⟩
      · exact ⟨⟨5, by omega, rfl, (unhide HO).step (by rw [← unhide HL]; rfl) (okB_yes (x := x4) (by omega) (by omega))⟩, by simp [intOf]⟩
      · go_ret
        exact ⟨ret_bool (rightB_false 4 x4 (by rw [← unhide HL]; rfl) (okB_lo (by omega))).symm, rfl⟩
    · go_wp2
      · go_ret
        exact ⟨ret_bool (rightB_false 5 x5 (by rw [← unhide HL]; rfl) (okB_hi (by omega))).symm, rfl⟩
      · exact ⟨⟨6, by omega, rfl, (unhide HO).step (by rw [← unhide HL]; rfl) (okB_yes (x := x5) (by omega) (by omega))⟩, by simp [intOf]⟩
      · go_ret
        exact ⟨ret_bool (rightB_false 5 x5 (by rw [← unhide HL]; rfl) (okB_lo (by omega))).symm, rfl⟩
    · go_wp2
      · go_ret
        exact ⟨ret_bool (rightB_false 6 x6 (by rw [← unhide HL]; rfl) (okB_hi (by omega))).symm, rfl⟩
      · exact ⟨⟨7, by omega, rfl, (unhide HO).step (by rw [← unhide HL]; rfl) (okB_yes (x := x6) (by omega) (by omega))⟩, by simp [intOf]⟩
      · go_ret
        exact ⟨ret_bool (rightB_false 6 x6 (by rw [← unhide HL]; rfl) (okB_lo (by omega))).symm, rfl⟩
    · go_wp2
      · go_ret
        exact ⟨ret_bool (rightB_false 7 x7 (by rw [← unhide HL]; rfl) (okB_hi (by omega))).symm, rfl⟩
      · exact ⟨⟨8, by omega, rfl, (unhide HO).step (by rw [← unhide HL]; rfl) (okB_yes (x := x7) (by omega) (by omega))⟩, by simp [intOf]⟩
      · go_ret
        exact ⟨ret_bool (rightB_false 7 x7 (by rw [← unhide HL]; rfl) (okB_lo (by omega))).symm, rfl⟩
    · go_wp2
      go_ret
      exact ⟨ret_bool ((unhide HO).all (by rw [← unhide HL]; exact Nat.le_refl 8)).symm, rfl⟩

set_option maxRecDepth 100000 in
set_option maxHeartbeats 400000 in
theorem rtold_any (w : World) : Calls Tryd.prog 40 #[.agg #[.int .i64 x0, .int .i64 x1, .int .i64 x2, .int .i64 x3, .int .i64 x4, .int .i64 x5, .int .i64 x6, .int .i64 x7]] w fun e w' => e = .returned (.tuple #[.agg #[.int .i64 (sel (rightB [x0, x1, x2, x3, x4, x5, x6, x7]) x0), .int .i64 (sel (rightB [x0, x1, x2, x3, x4, x5, x6, x7]) x1), .int .i64 (sel (rightB [x0, x1, x2, x3, x4, x5, x6, x7]) x2), .int .i64 (sel (rightB [x0, x1, x2, x3, x4, x5, x6, x7]) x3), .int .i64 (sel (rightB [x0, x1, x2, x3, x4, x5, x6, x7]) x4), .int .i64 (sel (rightB [x0, x1, x2, x3, x4, x5, x6, x7]) x5), .int .i64 (sel (rightB [x0, x1, x2, x3, x4, x5, x6, x7]) x6), .int .i64 (sel (rightB [x0, x1, x2, x3, x4, x5, x6, x7]) x7)], .int .i64 (errOf (rightB [x0, x1, x2, x3, x4, x5, x6, x7]) 51)]) ∧ w' = ((w.alloc (.cells #[.int .i64 x0, .int .i64 x1, .int .i64 x2, .int .i64 x3, .int .i64 x4, .int .i64 x5, .int .i64 x6, .int .i64 x7] 24)).alloc (.cells #[.int .i64 (sel (rightB [x0, x1, x2, x3, x4, x5, x6, x7]) x0), .int .i64 (sel (rightB [x0, x1, x2, x3, x4, x5, x6, x7]) x1), .int .i64 (sel (rightB [x0, x1, x2, x3, x4, x5, x6, x7]) x2), .int .i64 (sel (rightB [x0, x1, x2, x3, x4, x5, x6, x7]) x3), .int .i64 (sel (rightB [x0, x1, x2, x3, x4, x5, x6, x7]) x4), .int .i64 (sel (rightB [x0, x1, x2, x3, x4, x5, x6, x7]) x5), .int .i64 (sel (rightB [x0, x1, x2, x3, x4, x5, x6, x7]) x6), .int .i64 (sel (rightB [x0, x1, x2, x3, x4, x5, x6, x7]) x7)] 24)).alloc (.cells #[.int .i64 x0, .int .i64 x1, .int .i64 x2, .int .i64 x3, .int .i64 x4, .int .i64 x5, .int .i64 x6, .int .i64 x7] 24) := by
  have HC := hide (rright_any x0 x1 x2 x3 x4 x5 x6 x7)
  generalize rightB [x0, x1, x2, x3, x4, x5, x6, x7] = r at *
  cases r with
  | true =>
    simp only [sel_true, errOf_true]
    go_enter Tryd.func40, Tryd.ntmps40
    go_wp2_with (go_at_call 14; refine (unhide HC _).mono ?_; rintro e w' ⟨rfl, rfl⟩)
    exact bodyPost_ret (v := .tuple #[.agg #[.int .i64 x0, .int .i64 x1, .int .i64 x2, .int .i64 x3, .int .i64 x4, .int .i64 x5, .int .i64 x6, .int .i64 x7], .int .i64 0]) (by simp [results, Tryd.results40, go_sem]) rfl ⟨rfl, rfl⟩
  | false =>
    simp only [sel_false, errOf_false]
    go_enter Tryd.func40, Tryd.ntmps40
    go_wp2_with (go_at_call 14; refine (unhide HC _).mono ?_; rintro e w' ⟨rfl, rfl⟩)
    exact bodyPost_ret (v := .tuple #[.agg #[.int .i64 0, .int .i64 0, .int .i64 0, .int .i64 0, .int .i64 0, .int .i64 0, .int .i64 0, .int .i64 0], .int .i64 51]) (by simp [results, Tryd.results40, go_sem]) rfl ⟨rfl, rfl⟩
end
end Go.Proofs.YtccnbnfafhpeaaaDoor
