/- names.raised, lowered. -/
import Derived.Test.YtiooiacebgojiabDoorClass
import Derived.Deep.RegionWith
namespace Go.Proofs.YtiooiacebgojiabDoor
open Go.RowKit

set_option maxRecDepth 100000 in
set_option maxHeartbeats 400000 in
theorem raised_any (d : Nat) (hd : d < 10) (w : World) : Calls Tryd.prog 26 #[.int .i64 (d : Int)] w fun e w' => e = .returned (.int .i32 (([8304, 185, 178, 179, 8308, 8309, 8310, 8311, 8312, 8313] : List Int).getD d 0)) ∧ w' = w := by
  rcases (by omega : d = 0 ∨ d = 1 ∨ d = 2 ∨ d = 3 ∨ d = 4 ∨ d = 5 ∨ d = 6 ∨ d = 7 ∨ d = 8 ∨ d = 9) with rfl | rfl | rfl | rfl | rfl | rfl | rfl | rfl | rfl | rfl
  all_goals
    go_enter Tryd.func26, Tryd.ntmps26
    go_wp2
    go_ret
    exact ⟨rfl, rfl⟩
set_option maxRecDepth 100000 in
set_option maxHeartbeats 1000000 in
theorem lowered_no (r : Int) (w : World) (h : r ≠ 8304 ∧ r ≠ 185 ∧ r ≠ 178 ∧ r ≠ 179 ∧ r ≠ 8308 ∧ r ≠ 8309 ∧ r ≠ 8310 ∧ r ≠ 8311 ∧ r ≠ 8312 ∧ r ≠ 8313) : Calls Tryd.prog 28 #[.int .i32 r] w fun e w' => e = .returned (.tuple #[.int .i64 0, .bool false]) ∧ w' = w := by
  have e0 : ((8304 : Int) == r) = false := by rw [beq_eq_false_iff_ne]; omega
  have e1 : ((185 : Int) == r) = false := by rw [beq_eq_false_iff_ne]; omega
  have e2 : ((178 : Int) == r) = false := by rw [beq_eq_false_iff_ne]; omega
  have e3 : ((179 : Int) == r) = false := by rw [beq_eq_false_iff_ne]; omega
  have e4 : ((8308 : Int) == r) = false := by rw [beq_eq_false_iff_ne]; omega
  have e5 : ((8309 : Int) == r) = false := by rw [beq_eq_false_iff_ne]; omega
  have e6 : ((8310 : Int) == r) = false := by rw [beq_eq_false_iff_ne]; omega
  have e7 : ((8311 : Int) == r) = false := by rw [beq_eq_false_iff_ne]; omega
  have e8 : ((8312 : Int) == r) = false := by rw [beq_eq_false_iff_ne]; omega
  have e9 : ((8313 : Int) == r) = false := by rw [beq_eq_false_iff_ne]; omega
  have c0 : Hid (∀ w, Calls Tryd.prog 26 #[.int .i64 0] w fun e w' => e = .returned (.int .i32 8304) ∧ w' = w) := fun w => raised_any 0 (by omega) w
  have c1 : Hid (∀ w, Calls Tryd.prog 26 #[.int .i64 1] w fun e w' => e = .returned (.int .i32 185) ∧ w' = w) := fun w => raised_any 1 (by omega) w
  have c2 : Hid (∀ w, Calls Tryd.prog 26 #[.int .i64 2] w fun e w' => e = .returned (.int .i32 178) ∧ w' = w) := fun w => raised_any 2 (by omega) w
  have c3 : Hid (∀ w, Calls Tryd.prog 26 #[.int .i64 3] w fun e w' => e = .returned (.int .i32 179) ∧ w' = w) := fun w => raised_any 3 (by omega) w
  have c4 : Hid (∀ w, Calls Tryd.prog 26 #[.int .i64 4] w fun e w' => e = .returned (.int .i32 8308) ∧ w' = w) := fun w => raised_any 4 (by omega) w
  have c5 : Hid (∀ w, Calls Tryd.prog 26 #[.int .i64 5] w fun e w' => e = .returned (.int .i32 8309) ∧ w' = w) := fun w => raised_any 5 (by omega) w
  have c6 : Hid (∀ w, Calls Tryd.prog 26 #[.int .i64 6] w fun e w' => e = .returned (.int .i32 8310) ∧ w' = w) := fun w => raised_any 6 (by omega) w
  have c7 : Hid (∀ w, Calls Tryd.prog 26 #[.int .i64 7] w fun e w' => e = .returned (.int .i32 8311) ∧ w' = w) := fun w => raised_any 7 (by omega) w
  have c8 : Hid (∀ w, Calls Tryd.prog 26 #[.int .i64 8] w fun e w' => e = .returned (.int .i32 8312) ∧ w' = w) := fun w => raised_any 8 (by omega) w
  have c9 : Hid (∀ w, Calls Tryd.prog 26 #[.int .i64 9] w fun e w' => e = .returned (.int .i32 8313) ∧ w' = w) := fun w => raised_any 9 (by omega) w
  clear h
  go_enter Tryd.func28, Tryd.ntmps28
  go_wp2
  refine wp_loop_rounds 11 ?_
  repeat any_goals (rw [rounds_succ]; go_wp2_with (first
    |  (go_at_call_of 26 (Value.int .i64 0); refine (unhide c0 _).mono ?_; rintro e w' ⟨rfl, rfl⟩)
    |  (go_at_call_of 26 (Value.int .i64 1); refine (unhide c1 _).mono ?_; rintro e w' ⟨rfl, rfl⟩)
    |  (go_at_call_of 26 (Value.int .i64 2); refine (unhide c2 _).mono ?_; rintro e w' ⟨rfl, rfl⟩)
    |  (go_at_call_of 26 (Value.int .i64 3); refine (unhide c3 _).mono ?_; rintro e w' ⟨rfl, rfl⟩)
    |  (go_at_call_of 26 (Value.int .i64 4); refine (unhide c4 _).mono ?_; rintro e w' ⟨rfl, rfl⟩)
    |  (go_at_call_of 26 (Value.int .i64 5); refine (unhide c5 _).mono ?_; rintro e w' ⟨rfl, rfl⟩)
    |  (go_at_call_of 26 (Value.int .i64 6); refine (unhide c6 _).mono ?_; rintro e w' ⟨rfl, rfl⟩)
    |  (go_at_call_of 26 (Value.int .i64 7); refine (unhide c7 _).mono ?_; rintro e w' ⟨rfl, rfl⟩)
    |  (go_at_call_of 26 (Value.int .i64 8); refine (unhide c8 _).mono ?_; rintro e w' ⟨rfl, rfl⟩)
    |  (go_at_call_of 26 (Value.int .i64 9); refine (unhide c9 _).mono ?_; rintro e w' ⟨rfl, rfl⟩)))
  go_ret2
  exact ⟨rfl, rfl⟩
set_option maxRecDepth 100000 in
set_option maxHeartbeats 400000 in
theorem lowered_0 (w : World) : Calls Tryd.prog 28 #[.int .i32 8304] w fun e w' => e = .returned (.tuple #[.int .i64 0, .bool true]) ∧ w' = w := by
  have c0 : Hid (∀ w, Calls Tryd.prog 26 #[.int .i64 0] w fun e w' => e = .returned (.int .i32 8304) ∧ w' = w) := fun w => raised_any 0 (by omega) w
  go_enter Tryd.func28, Tryd.ntmps28
  go_wp2
  refine wp_loop_rounds 1 ?_
  repeat any_goals (rw [rounds_succ]; go_wp2_with (first
    | (go_at_call_of 26 (Value.int .i64 0); refine (unhide c0 _).mono ?_; rintro e w' ⟨rfl, rfl⟩)))
  go_ret2
  exact ⟨rfl, rfl⟩
set_option maxRecDepth 100000 in
set_option maxHeartbeats 400000 in
theorem lowered_1 (w : World) : Calls Tryd.prog 28 #[.int .i32 185] w fun e w' => e = .returned (.tuple #[.int .i64 1, .bool true]) ∧ w' = w := by
  have c0 : Hid (∀ w, Calls Tryd.prog 26 #[.int .i64 0] w fun e w' => e = .returned (.int .i32 8304) ∧ w' = w) := fun w => raised_any 0 (by omega) w
  have c1 : Hid (∀ w, Calls Tryd.prog 26 #[.int .i64 1] w fun e w' => e = .returned (.int .i32 185) ∧ w' = w) := fun w => raised_any 1 (by omega) w
  go_enter Tryd.func28, Tryd.ntmps28
  go_wp2
  refine wp_loop_rounds 2 ?_
  repeat any_goals (rw [rounds_succ]; go_wp2_with (first
    | (go_at_call_of 26 (Value.int .i64 0); refine (unhide c0 _).mono ?_; rintro e w' ⟨rfl, rfl⟩)
    | (go_at_call_of 26 (Value.int .i64 1); refine (unhide c1 _).mono ?_; rintro e w' ⟨rfl, rfl⟩)))
  go_ret2
  exact ⟨rfl, rfl⟩
set_option maxRecDepth 100000 in
set_option maxHeartbeats 400000 in
theorem lowered_2 (w : World) : Calls Tryd.prog 28 #[.int .i32 178] w fun e w' => e = .returned (.tuple #[.int .i64 2, .bool true]) ∧ w' = w := by
  have c0 : Hid (∀ w, Calls Tryd.prog 26 #[.int .i64 0] w fun e w' => e = .returned (.int .i32 8304) ∧ w' = w) := fun w => raised_any 0 (by omega) w
  have c1 : Hid (∀ w, Calls Tryd.prog 26 #[.int .i64 1] w fun e w' => e = .returned (.int .i32 185) ∧ w' = w) := fun w => raised_any 1 (by omega) w
  have c2 : Hid (∀ w, Calls Tryd.prog 26 #[.int .i64 2] w fun e w' => e = .returned (.int .i32 178) ∧ w' = w) := fun w => raised_any 2 (by omega) w
  go_enter Tryd.func28, Tryd.ntmps28
  go_wp2
  refine wp_loop_rounds 3 ?_
  repeat any_goals (rw [rounds_succ]; go_wp2_with (first
    | (go_at_call_of 26 (Value.int .i64 0); refine (unhide c0 _).mono ?_; rintro e w' ⟨rfl, rfl⟩)
    | (go_at_call_of 26 (Value.int .i64 1); refine (unhide c1 _).mono ?_; rintro e w' ⟨rfl, rfl⟩)
    | (go_at_call_of 26 (Value.int .i64 2); refine (unhide c2 _).mono ?_; rintro e w' ⟨rfl, rfl⟩)))
  go_ret2
  exact ⟨rfl, rfl⟩
set_option maxRecDepth 100000 in
set_option maxHeartbeats 400000 in
theorem lowered_3 (w : World) : Calls Tryd.prog 28 #[.int .i32 179] w fun e w' => e = .returned (.tuple #[.int .i64 3, .bool true]) ∧ w' = w := by
  have c0 : Hid (∀ w, Calls Tryd.prog 26 #[.int .i64 0] w fun e w' => e = .returned (.int .i32 8304) ∧ w' = w) := fun w => raised_any 0 (by omega) w
  have c1 : Hid (∀ w, Calls Tryd.prog 26 #[.int .i64 1] w fun e w' => e = .returned (.int .i32 185) ∧ w' = w) := fun w => raised_any 1 (by omega) w
  have c2 : Hid (∀ w, Calls Tryd.prog 26 #[.int .i64 2] w fun e w' => e = .returned (.int .i32 178) ∧ w' = w) := fun w => raised_any 2 (by omega) w
  have c3 : Hid (∀ w, Calls Tryd.prog 26 #[.int .i64 3] w fun e w' => e = .returned (.int .i32 179) ∧ w' = w) := fun w => raised_any 3 (by omega) w
  go_enter Tryd.func28, Tryd.ntmps28
  go_wp2
  refine wp_loop_rounds 4 ?_
  repeat any_goals (rw [rounds_succ]; go_wp2_with (first
    | (go_at_call_of 26 (Value.int .i64 0); refine (unhide c0 _).mono ?_; rintro e w' ⟨rfl, rfl⟩)
    | (go_at_call_of 26 (Value.int .i64 1); refine (unhide c1 _).mono ?_; rintro e w' ⟨rfl, rfl⟩)
    | (go_at_call_of 26 (Value.int .i64 2); refine (unhide c2 _).mono ?_; rintro e w' ⟨rfl, rfl⟩)
    | (go_at_call_of 26 (Value.int .i64 3); refine (unhide c3 _).mono ?_; rintro e w' ⟨rfl, rfl⟩)))
  go_ret2
  exact ⟨rfl, rfl⟩
set_option maxRecDepth 100000 in
set_option maxHeartbeats 400000 in
theorem lowered_4 (w : World) : Calls Tryd.prog 28 #[.int .i32 8308] w fun e w' => e = .returned (.tuple #[.int .i64 4, .bool true]) ∧ w' = w := by
  have c0 : Hid (∀ w, Calls Tryd.prog 26 #[.int .i64 0] w fun e w' => e = .returned (.int .i32 8304) ∧ w' = w) := fun w => raised_any 0 (by omega) w
  have c1 : Hid (∀ w, Calls Tryd.prog 26 #[.int .i64 1] w fun e w' => e = .returned (.int .i32 185) ∧ w' = w) := fun w => raised_any 1 (by omega) w
  have c2 : Hid (∀ w, Calls Tryd.prog 26 #[.int .i64 2] w fun e w' => e = .returned (.int .i32 178) ∧ w' = w) := fun w => raised_any 2 (by omega) w
  have c3 : Hid (∀ w, Calls Tryd.prog 26 #[.int .i64 3] w fun e w' => e = .returned (.int .i32 179) ∧ w' = w) := fun w => raised_any 3 (by omega) w
  have c4 : Hid (∀ w, Calls Tryd.prog 26 #[.int .i64 4] w fun e w' => e = .returned (.int .i32 8308) ∧ w' = w) := fun w => raised_any 4 (by omega) w
  go_enter Tryd.func28, Tryd.ntmps28
  go_wp2
  refine wp_loop_rounds 5 ?_
  repeat any_goals (rw [rounds_succ]; go_wp2_with (first
    | (go_at_call_of 26 (Value.int .i64 0); refine (unhide c0 _).mono ?_; rintro e w' ⟨rfl, rfl⟩)
    | (go_at_call_of 26 (Value.int .i64 1); refine (unhide c1 _).mono ?_; rintro e w' ⟨rfl, rfl⟩)
    | (go_at_call_of 26 (Value.int .i64 2); refine (unhide c2 _).mono ?_; rintro e w' ⟨rfl, rfl⟩)
    | (go_at_call_of 26 (Value.int .i64 3); refine (unhide c3 _).mono ?_; rintro e w' ⟨rfl, rfl⟩)
    | (go_at_call_of 26 (Value.int .i64 4); refine (unhide c4 _).mono ?_; rintro e w' ⟨rfl, rfl⟩)))
  go_ret2
  exact ⟨rfl, rfl⟩
set_option maxRecDepth 100000 in
set_option maxHeartbeats 400000 in
theorem lowered_5 (w : World) : Calls Tryd.prog 28 #[.int .i32 8309] w fun e w' => e = .returned (.tuple #[.int .i64 5, .bool true]) ∧ w' = w := by
  have c0 : Hid (∀ w, Calls Tryd.prog 26 #[.int .i64 0] w fun e w' => e = .returned (.int .i32 8304) ∧ w' = w) := fun w => raised_any 0 (by omega) w
  have c1 : Hid (∀ w, Calls Tryd.prog 26 #[.int .i64 1] w fun e w' => e = .returned (.int .i32 185) ∧ w' = w) := fun w => raised_any 1 (by omega) w
  have c2 : Hid (∀ w, Calls Tryd.prog 26 #[.int .i64 2] w fun e w' => e = .returned (.int .i32 178) ∧ w' = w) := fun w => raised_any 2 (by omega) w
  have c3 : Hid (∀ w, Calls Tryd.prog 26 #[.int .i64 3] w fun e w' => e = .returned (.int .i32 179) ∧ w' = w) := fun w => raised_any 3 (by omega) w
  have c4 : Hid (∀ w, Calls Tryd.prog 26 #[.int .i64 4] w fun e w' => e = .returned (.int .i32 8308) ∧ w' = w) := fun w => raised_any 4 (by omega) w
  have c5 : Hid (∀ w, Calls Tryd.prog 26 #[.int .i64 5] w fun e w' => e = .returned (.int .i32 8309) ∧ w' = w) := fun w => raised_any 5 (by omega) w
  go_enter Tryd.func28, Tryd.ntmps28
  go_wp2
  refine wp_loop_rounds 6 ?_
  repeat any_goals (rw [rounds_succ]; go_wp2_with (first
    | (go_at_call_of 26 (Value.int .i64 0); refine (unhide c0 _).mono ?_; rintro e w' ⟨rfl, rfl⟩)
    | (go_at_call_of 26 (Value.int .i64 1); refine (unhide c1 _).mono ?_; rintro e w' ⟨rfl, rfl⟩)
    | (go_at_call_of 26 (Value.int .i64 2); refine (unhide c2 _).mono ?_; rintro e w' ⟨rfl, rfl⟩)
    | (go_at_call_of 26 (Value.int .i64 3); refine (unhide c3 _).mono ?_; rintro e w' ⟨rfl, rfl⟩)
    | (go_at_call_of 26 (Value.int .i64 4); refine (unhide c4 _).mono ?_; rintro e w' ⟨rfl, rfl⟩)
    | (go_at_call_of 26 (Value.int .i64 5); refine (unhide c5 _).mono ?_; rintro e w' ⟨rfl, rfl⟩)))
  go_ret2
  exact ⟨rfl, rfl⟩
set_option maxRecDepth 100000 in
set_option maxHeartbeats 400000 in
theorem lowered_6 (w : World) : Calls Tryd.prog 28 #[.int .i32 8310] w fun e w' => e = .returned (.tuple #[.int .i64 6, .bool true]) ∧ w' = w := by
  have c0 : Hid (∀ w, Calls Tryd.prog 26 #[.int .i64 0] w fun e w' => e = .returned (.int .i32 8304) ∧ w' = w) := fun w => raised_any 0 (by omega) w
  have c1 : Hid (∀ w, Calls Tryd.prog 26 #[.int .i64 1] w fun e w' => e = .returned (.int .i32 185) ∧ w' = w) := fun w => raised_any 1 (by omega) w
  have c2 : Hid (∀ w, Calls Tryd.prog 26 #[.int .i64 2] w fun e w' => e = .returned (.int .i32 178) ∧ w' = w) := fun w => raised_any 2 (by omega) w
  have c3 : Hid (∀ w, Calls Tryd.prog 26 #[.int .i64 3] w fun e w' => e = .returned (.int .i32 179) ∧ w' = w) := fun w => raised_any 3 (by omega) w
  have c4 : Hid (∀ w, Calls Tryd.prog 26 #[.int .i64 4] w fun e w' => e = .returned (.int .i32 8308) ∧ w' = w) := fun w => raised_any 4 (by omega) w
  have c5 : Hid (∀ w, Calls Tryd.prog 26 #[.int .i64 5] w fun e w' => e = .returned (.int .i32 8309) ∧ w' = w) := fun w => raised_any 5 (by omega) w
  have c6 : Hid (∀ w, Calls Tryd.prog 26 #[.int .i64 6] w fun e w' => e = .returned (.int .i32 8310) ∧ w' = w) := fun w => raised_any 6 (by omega) w
  go_enter Tryd.func28, Tryd.ntmps28
  go_wp2
  refine wp_loop_rounds 7 ?_
  repeat any_goals (rw [rounds_succ]; go_wp2_with (first
    | (go_at_call_of 26 (Value.int .i64 0); refine (unhide c0 _).mono ?_; rintro e w' ⟨rfl, rfl⟩)
    | (go_at_call_of 26 (Value.int .i64 1); refine (unhide c1 _).mono ?_; rintro e w' ⟨rfl, rfl⟩)
    | (go_at_call_of 26 (Value.int .i64 2); refine (unhide c2 _).mono ?_; rintro e w' ⟨rfl, rfl⟩)
    | (go_at_call_of 26 (Value.int .i64 3); refine (unhide c3 _).mono ?_; rintro e w' ⟨rfl, rfl⟩)
    | (go_at_call_of 26 (Value.int .i64 4); refine (unhide c4 _).mono ?_; rintro e w' ⟨rfl, rfl⟩)
    | (go_at_call_of 26 (Value.int .i64 5); refine (unhide c5 _).mono ?_; rintro e w' ⟨rfl, rfl⟩)
    | (go_at_call_of 26 (Value.int .i64 6); refine (unhide c6 _).mono ?_; rintro e w' ⟨rfl, rfl⟩)))
  go_ret2
  exact ⟨rfl, rfl⟩
set_option maxRecDepth 100000 in
set_option maxHeartbeats 400000 in
theorem lowered_7 (w : World) : Calls Tryd.prog 28 #[.int .i32 8311] w fun e w' => e = .returned (.tuple #[.int .i64 7, .bool true]) ∧ w' = w := by
  have c0 : Hid (∀ w, Calls Tryd.prog 26 #[.int .i64 0] w fun e w' => e = .returned (.int .i32 8304) ∧ w' = w) := fun w => raised_any 0 (by omega) w
  have c1 : Hid (∀ w, Calls Tryd.prog 26 #[.int .i64 1] w fun e w' => e = .returned (.int .i32 185) ∧ w' = w) := fun w => raised_any 1 (by omega) w
  have c2 : Hid (∀ w, Calls Tryd.prog 26 #[.int .i64 2] w fun e w' => e = .returned (.int .i32 178) ∧ w' = w) := fun w => raised_any 2 (by omega) w
  have c3 : Hid (∀ w, Calls Tryd.prog 26 #[.int .i64 3] w fun e w' => e = .returned (.int .i32 179) ∧ w' = w) := fun w => raised_any 3 (by omega) w
  have c4 : Hid (∀ w, Calls Tryd.prog 26 #[.int .i64 4] w fun e w' => e = .returned (.int .i32 8308) ∧ w' = w) := fun w => raised_any 4 (by omega) w
  have c5 : Hid (∀ w, Calls Tryd.prog 26 #[.int .i64 5] w fun e w' => e = .returned (.int .i32 8309) ∧ w' = w) := fun w => raised_any 5 (by omega) w
  have c6 : Hid (∀ w, Calls Tryd.prog 26 #[.int .i64 6] w fun e w' => e = .returned (.int .i32 8310) ∧ w' = w) := fun w => raised_any 6 (by omega) w
  have c7 : Hid (∀ w, Calls Tryd.prog 26 #[.int .i64 7] w fun e w' => e = .returned (.int .i32 8311) ∧ w' = w) := fun w => raised_any 7 (by omega) w
  go_enter Tryd.func28, Tryd.ntmps28
  go_wp2
  refine wp_loop_rounds 8 ?_
  repeat any_goals (rw [rounds_succ]; go_wp2_with (first
    | (go_at_call_of 26 (Value.int .i64 0); refine (unhide c0 _).mono ?_; rintro e w' ⟨rfl, rfl⟩)
    | (go_at_call_of 26 (Value.int .i64 1); refine (unhide c1 _).mono ?_; rintro e w' ⟨rfl, rfl⟩)
    | (go_at_call_of 26 (Value.int .i64 2); refine (unhide c2 _).mono ?_; rintro e w' ⟨rfl, rfl⟩)
    | (go_at_call_of 26 (Value.int .i64 3); refine (unhide c3 _).mono ?_; rintro e w' ⟨rfl, rfl⟩)
    | (go_at_call_of 26 (Value.int .i64 4); refine (unhide c4 _).mono ?_; rintro e w' ⟨rfl, rfl⟩)
    | (go_at_call_of 26 (Value.int .i64 5); refine (unhide c5 _).mono ?_; rintro e w' ⟨rfl, rfl⟩)
    | (go_at_call_of 26 (Value.int .i64 6); refine (unhide c6 _).mono ?_; rintro e w' ⟨rfl, rfl⟩)
    | (go_at_call_of 26 (Value.int .i64 7); refine (unhide c7 _).mono ?_; rintro e w' ⟨rfl, rfl⟩)))
  go_ret2
  exact ⟨rfl, rfl⟩
set_option maxRecDepth 100000 in
set_option maxHeartbeats 400000 in
theorem lowered_8 (w : World) : Calls Tryd.prog 28 #[.int .i32 8312] w fun e w' => e = .returned (.tuple #[.int .i64 8, .bool true]) ∧ w' = w := by
  have c0 : Hid (∀ w, Calls Tryd.prog 26 #[.int .i64 0] w fun e w' => e = .returned (.int .i32 8304) ∧ w' = w) := fun w => raised_any 0 (by omega) w
  have c1 : Hid (∀ w, Calls Tryd.prog 26 #[.int .i64 1] w fun e w' => e = .returned (.int .i32 185) ∧ w' = w) := fun w => raised_any 1 (by omega) w
  have c2 : Hid (∀ w, Calls Tryd.prog 26 #[.int .i64 2] w fun e w' => e = .returned (.int .i32 178) ∧ w' = w) := fun w => raised_any 2 (by omega) w
  have c3 : Hid (∀ w, Calls Tryd.prog 26 #[.int .i64 3] w fun e w' => e = .returned (.int .i32 179) ∧ w' = w) := fun w => raised_any 3 (by omega) w
  have c4 : Hid (∀ w, Calls Tryd.prog 26 #[.int .i64 4] w fun e w' => e = .returned (.int .i32 8308) ∧ w' = w) := fun w => raised_any 4 (by omega) w
  have c5 : Hid (∀ w, Calls Tryd.prog 26 #[.int .i64 5] w fun e w' => e = .returned (.int .i32 8309) ∧ w' = w) := fun w => raised_any 5 (by omega) w
  have c6 : Hid (∀ w, Calls Tryd.prog 26 #[.int .i64 6] w fun e w' => e = .returned (.int .i32 8310) ∧ w' = w) := fun w => raised_any 6 (by omega) w
  have c7 : Hid (∀ w, Calls Tryd.prog 26 #[.int .i64 7] w fun e w' => e = .returned (.int .i32 8311) ∧ w' = w) := fun w => raised_any 7 (by omega) w
  have c8 : Hid (∀ w, Calls Tryd.prog 26 #[.int .i64 8] w fun e w' => e = .returned (.int .i32 8312) ∧ w' = w) := fun w => raised_any 8 (by omega) w
  go_enter Tryd.func28, Tryd.ntmps28
  go_wp2
  refine wp_loop_rounds 9 ?_
  repeat any_goals (rw [rounds_succ]; go_wp2_with (first
    | (go_at_call_of 26 (Value.int .i64 0); refine (unhide c0 _).mono ?_; rintro e w' ⟨rfl, rfl⟩)
    | (go_at_call_of 26 (Value.int .i64 1); refine (unhide c1 _).mono ?_; rintro e w' ⟨rfl, rfl⟩)
    | (go_at_call_of 26 (Value.int .i64 2); refine (unhide c2 _).mono ?_; rintro e w' ⟨rfl, rfl⟩)
    | (go_at_call_of 26 (Value.int .i64 3); refine (unhide c3 _).mono ?_; rintro e w' ⟨rfl, rfl⟩)
    | (go_at_call_of 26 (Value.int .i64 4); refine (unhide c4 _).mono ?_; rintro e w' ⟨rfl, rfl⟩)
    | (go_at_call_of 26 (Value.int .i64 5); refine (unhide c5 _).mono ?_; rintro e w' ⟨rfl, rfl⟩)
    | (go_at_call_of 26 (Value.int .i64 6); refine (unhide c6 _).mono ?_; rintro e w' ⟨rfl, rfl⟩)
    | (go_at_call_of 26 (Value.int .i64 7); refine (unhide c7 _).mono ?_; rintro e w' ⟨rfl, rfl⟩)
    | (go_at_call_of 26 (Value.int .i64 8); refine (unhide c8 _).mono ?_; rintro e w' ⟨rfl, rfl⟩)))
  go_ret2
  exact ⟨rfl, rfl⟩
set_option maxRecDepth 100000 in
set_option maxHeartbeats 400000 in
theorem lowered_9 (w : World) : Calls Tryd.prog 28 #[.int .i32 8313] w fun e w' => e = .returned (.tuple #[.int .i64 9, .bool true]) ∧ w' = w := by
  have c0 : Hid (∀ w, Calls Tryd.prog 26 #[.int .i64 0] w fun e w' => e = .returned (.int .i32 8304) ∧ w' = w) := fun w => raised_any 0 (by omega) w
  have c1 : Hid (∀ w, Calls Tryd.prog 26 #[.int .i64 1] w fun e w' => e = .returned (.int .i32 185) ∧ w' = w) := fun w => raised_any 1 (by omega) w
  have c2 : Hid (∀ w, Calls Tryd.prog 26 #[.int .i64 2] w fun e w' => e = .returned (.int .i32 178) ∧ w' = w) := fun w => raised_any 2 (by omega) w
  have c3 : Hid (∀ w, Calls Tryd.prog 26 #[.int .i64 3] w fun e w' => e = .returned (.int .i32 179) ∧ w' = w) := fun w => raised_any 3 (by omega) w
  have c4 : Hid (∀ w, Calls Tryd.prog 26 #[.int .i64 4] w fun e w' => e = .returned (.int .i32 8308) ∧ w' = w) := fun w => raised_any 4 (by omega) w
  have c5 : Hid (∀ w, Calls Tryd.prog 26 #[.int .i64 5] w fun e w' => e = .returned (.int .i32 8309) ∧ w' = w) := fun w => raised_any 5 (by omega) w
  have c6 : Hid (∀ w, Calls Tryd.prog 26 #[.int .i64 6] w fun e w' => e = .returned (.int .i32 8310) ∧ w' = w) := fun w => raised_any 6 (by omega) w
  have c7 : Hid (∀ w, Calls Tryd.prog 26 #[.int .i64 7] w fun e w' => e = .returned (.int .i32 8311) ∧ w' = w) := fun w => raised_any 7 (by omega) w
  have c8 : Hid (∀ w, Calls Tryd.prog 26 #[.int .i64 8] w fun e w' => e = .returned (.int .i32 8312) ∧ w' = w) := fun w => raised_any 8 (by omega) w
  have c9 : Hid (∀ w, Calls Tryd.prog 26 #[.int .i64 9] w fun e w' => e = .returned (.int .i32 8313) ∧ w' = w) := fun w => raised_any 9 (by omega) w
  go_enter Tryd.func28, Tryd.ntmps28
  go_wp2
  refine wp_loop_rounds 10 ?_
  repeat any_goals (rw [rounds_succ]; go_wp2_with (first
    | (go_at_call_of 26 (Value.int .i64 0); refine (unhide c0 _).mono ?_; rintro e w' ⟨rfl, rfl⟩)
    | (go_at_call_of 26 (Value.int .i64 1); refine (unhide c1 _).mono ?_; rintro e w' ⟨rfl, rfl⟩)
    | (go_at_call_of 26 (Value.int .i64 2); refine (unhide c2 _).mono ?_; rintro e w' ⟨rfl, rfl⟩)
    | (go_at_call_of 26 (Value.int .i64 3); refine (unhide c3 _).mono ?_; rintro e w' ⟨rfl, rfl⟩)
    | (go_at_call_of 26 (Value.int .i64 4); refine (unhide c4 _).mono ?_; rintro e w' ⟨rfl, rfl⟩)
    | (go_at_call_of 26 (Value.int .i64 5); refine (unhide c5 _).mono ?_; rintro e w' ⟨rfl, rfl⟩)
    | (go_at_call_of 26 (Value.int .i64 6); refine (unhide c6 _).mono ?_; rintro e w' ⟨rfl, rfl⟩)
    | (go_at_call_of 26 (Value.int .i64 7); refine (unhide c7 _).mono ?_; rintro e w' ⟨rfl, rfl⟩)
    | (go_at_call_of 26 (Value.int .i64 8); refine (unhide c8 _).mono ?_; rintro e w' ⟨rfl, rfl⟩)
    | (go_at_call_of 26 (Value.int .i64 9); refine (unhide c9 _).mono ?_; rintro e w' ⟨rfl, rfl⟩)))
  go_ret2
  exact ⟨rfl, rfl⟩
end Go.Proofs.YtiooiacebgojiabDoor
