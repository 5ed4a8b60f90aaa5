/- The document's own Class; names.goesOn. -/
import Derived.Test.YthcbhnggphdflaaGreatDoorNmClass
import Derived.Deep.RegionWith
import Derived.Test.YthcbhnggphdflaaGreatDoorLimb2
namespace Go.Proofs.YthcbhnggphdflaaGreatDoor.Nm
open Go.RowKit
set_option maxRecDepth 100000 in
set_option maxHeartbeats 400000 in
theorem raised_any (d : Nat) (hd : d < 10) (w : World) : Calls Tryz.prog 224 #[.int .i64 (d : Int)] w fun e w' => e = .returned (.int .i32 (([8304, 185, 178, 179, 8308, 8309, 8310, 8311, 8312, 8313] : List Int).getD d 0)) ∧ w' = w := by
 rcases (by omega : d = 0 ∨ d = 1 ∨ d = 2 ∨ d = 3 ∨ d = 4 ∨ d = 5 ∨ d = 6 ∨ d = 7 ∨ d = 8 ∨ d = 9) with rfl | rfl | rfl | rfl | rfl | rfl | rfl | rfl | rfl | rfl
 all_goals
  go_enter Tryz.func224, Tryz.ntmps224
  go_wp2
  go_ret
  exact ⟨rfl, rfl⟩
set_option maxRecDepth 100000 in
set_option maxHeartbeats 1000000 in
theorem lowered_no (r : Int) (w : World) (h : r ≠ 8304 ∧ r ≠ 185 ∧ r ≠ 178 ∧ r ≠ 179 ∧ r ≠ 8308 ∧ r ≠ 8309 ∧ r ≠ 8310 ∧ r ≠ 8311 ∧ r ≠ 8312 ∧ r ≠ 8313) : Calls Tryz.prog 223 #[.int .i32 r] w fun e w' => e = .returned (.tuple #[.int .i64 0, .bool false]) ∧ w' = w := by
 have e0 : ((8304 : Int) == r) = false := by rw [beq_eq_false_iff_ne]; omega
 have e1 : ((185 : Int) == r) = false := by rw [beq_eq_false_iff_ne]; omega
 have e2 : ((178 : Int) == r) = false := by rw [beq_eq_false_iff_ne]; omega
 have e3 : ((179 : Int) == r) = false := by rw [beq_eq_false_iff_ne]; omega
 have e4 : ((8308 : Int) == r) = false := by rw [beq_eq_false_iff_ne]; omega
 have e5 : ((8309 : Int) == r) = false := by rw [beq_eq_false_iff_ne]; omega
 have e6 : ((8310 : Int) == r) = false := by rw [beq_eq_false_iff_ne]; omega
 have e7 : ((8311 : Int) == r) = false := by rw [beq_eq_false_iff_ne]; omega
 have e8 : ((8312 : Int) == r) = false := by rw [beq_eq_false_iff_ne]; omega
 have e9 : ((8313 : Int) == r) = false := by rw [beq_eq_false_iff_ne]; omega
 have c0 : Hid (∀ w, Calls Tryz.prog 224 #[.int .i64 0] w fun e w' => e = .returned (.int .i32 8304) ∧ w' = w) := fun w => raised_any 0 (by omega) w
 have c1 : Hid (∀ w, Calls Tryz.prog 224 #[.int .i64 1] w fun e w' => e = .returned (.int .i32 185) ∧ w' = w) := fun w => raised_any 1 (by omega) w
 have c2 : Hid (∀ w, Calls Tryz.prog 224 #[.int .i64 2] w fun e w' => e = .returned (.int .i32 178) ∧ w' = w) := fun w => raised_any 2 (by omega) w
 have c3 : Hid (∀ w, Calls Tryz.prog 224 #[.int .i64 3] w fun e w' => e = .returned (.int .i32 179) ∧ w' = w) := fun w => raised_any 3 (by omega) w
 have c4 : Hid (∀ w, Calls Tryz.prog 224 #[.int .i64 4] w fun e w' => e = .returned (.int .i32 8308) ∧ w' = w) := fun w => raised_any 4 (by omega) w
 have c5 : Hid (∀ w, Calls Tryz.prog 224 #[.int .i64 5] w fun e w' => e = .returned (.int .i32 8309) ∧ w' = w) := fun w => raised_any 5 (by omega) w
 have c6 : Hid (∀ w, Calls Tryz.prog 224 #[.int .i64 6] w fun e w' => e = .returned (.int .i32 8310) ∧ w' = w) := fun w => raised_any 6 (by omega) w
 have c7 : Hid (∀ w, Calls Tryz.prog 224 #[.int .i64 7] w fun e w' => e = .returned (.int .i32 8311) ∧ w' = w) := fun w => raised_any 7 (by omega) w
 have c8 : Hid (∀ w, Calls Tryz.prog 224 #[.int .i64 8] w fun e w' => e = .returned (.int .i32 8312) ∧ w' = w) := fun w => raised_any 8 (by omega) w
 have c9 : Hid (∀ w, Calls Tryz.prog 224 #[.int .i64 9] w fun e w' => e = .returned (.int .i32 8313) ∧ w' = w) := fun w => raised_any 9 (by omega) w
 clear h
 go_enter Tryz.func223, Tryz.ntmps223
 go_wp2
 refine wp_loop_rounds 11 ?_
 repeat any_goals (rw [rounds_succ]; go_wp2_with (first
  |  (go_at_call_of 224 (Value.int .i64 0); refine (un c0 _).mono ?_; rintro e w' ⟨rfl, rfl⟩)
  |  (go_at_call_of 224 (Value.int .i64 1); refine (un c1 _).mono ?_; rintro e w' ⟨rfl, rfl⟩)
  |  (go_at_call_of 224 (Value.int .i64 2); refine (un c2 _).mono ?_; rintro e w' ⟨rfl, rfl⟩)
  |  (go_at_call_of 224 (Value.int .i64 3); refine (un c3 _).mono ?_; rintro e w' ⟨rfl, rfl⟩)
  |  (go_at_call_of 224 (Value.int .i64 4); refine (un c4 _).mono ?_; rintro e w' ⟨rfl, rfl⟩)
  |  (go_at_call_of 224 (Value.int .i64 5); refine (un c5 _).mono ?_; rintro e w' ⟨rfl, rfl⟩)
  |  (go_at_call_of 224 (Value.int .i64 6); refine (un c6 _).mono ?_; rintro e w' ⟨rfl, rfl⟩)
  |  (go_at_call_of 224 (Value.int .i64 7); refine (un c7 _).mono ?_; rintro e w' ⟨rfl, rfl⟩)
  |  (go_at_call_of 224 (Value.int .i64 8); refine (un c8 _).mono ?_; rintro e w' ⟨rfl, rfl⟩)
  |  (go_at_call_of 224 (Value.int .i64 9); refine (un c9 _).mono ?_; rintro e w' ⟨rfl, rfl⟩)))
 go_ret2
 exact ⟨rfl, rfl⟩
set_option maxRecDepth 100000 in
set_option maxHeartbeats 400000 in
theorem lowered_0 (w : World) : Calls Tryz.prog 223 #[.int .i32 8304] w fun e w' => e = .returned (.tuple #[.int .i64 0, .bool true]) ∧ w' = w := by
 have c0 : Hid (∀ w, Calls Tryz.prog 224 #[.int .i64 0] w fun e w' => e = .returned (.int .i32 8304) ∧ w' = w) := fun w => raised_any 0 (by omega) w
 go_enter Tryz.func223, Tryz.ntmps223
 go_wp2
 refine wp_loop_rounds 1 ?_
 repeat any_goals (rw [rounds_succ]; go_wp2_with (first
  | (go_at_call_of 224 (Value.int .i64 0); refine (un c0 _).mono ?_; rintro e w' ⟨rfl, rfl⟩)))
 go_ret2
 exact ⟨rfl, rfl⟩
set_option maxRecDepth 100000 in
set_option maxHeartbeats 400000 in
theorem lowered_1 (w : World) : Calls Tryz.prog 223 #[.int .i32 185] w fun e w' => e = .returned (.tuple #[.int .i64 1, .bool true]) ∧ w' = w := by
 have c0 : Hid (∀ w, Calls Tryz.prog 224 #[.int .i64 0] w fun e w' => e = .returned (.int .i32 8304) ∧ w' = w) := fun w => raised_any 0 (by omega) w
 have c1 : Hid (∀ w, Calls Tryz.prog 224 #[.int .i64 1] w fun e w' => e = .returned (.int .i32 185) ∧ w' = w) := fun w => raised_any 1 (by omega) w
 go_enter Tryz.func223, Tryz.ntmps223
 go_wp2
 refine wp_loop_rounds 2 ?_
 repeat any_goals (rw [rounds_succ]; go_wp2_with (first
  | (go_at_call_of 224 (Value.int .i64 0); refine (un c0 _).mono ?_; rintro e w' ⟨rfl, rfl⟩)
  | (go_at_call_of 224 (Value.int .i64 1); refine (un c1 _).mono ?_; rintro e w' ⟨rfl, rfl⟩)))
 go_ret2
 exact ⟨rfl, rfl⟩
set_option maxRecDepth 100000 in
set_option maxHeartbeats 400000 in
theorem lowered_2 (w : World) : Calls Tryz.prog 223 #[.int .i32 178] w fun e w' => e = .returned (.tuple #[.int .i64 2, .bool true]) ∧ w' = w := by
 have c0 : Hid (∀ w, Calls Tryz.prog 224 #[.int .i64 0] w fun e w' => e = .returned (.int .i32 8304) ∧ w' = w) := fun w => raised_any 0 (by omega) w
 have c1 : Hid (∀ w, Calls Tryz.prog 224 #[.int .i64 1] w fun e w' => e = .returned (.int .i32 185) ∧ w' = w) := fun w => raised_any 1 (by omega) w
 have c2 : Hid (∀ w, Calls Tryz.prog 224 #[.int .i64 2] w fun e w' => e = .returned (.int .i32 178) ∧ w' = w) := fun w => raised_any 2 (by omega) w
 go_enter Tryz.func223, Tryz.ntmps223
 go_wp2
 refine wp_loop_rounds 3 ?_
 repeat any_goals (rw [rounds_succ]; go_wp2_with (first
  | (go_at_call_of 224 (Value.int .i64 0); refine (un c0 _).mono ?_; rintro e w' ⟨rfl, rfl⟩)
  | (go_at_call_of 224 (Value.int .i64 1); refine (un c1 _).mono ?_; rintro e w' ⟨rfl, rfl⟩)
  | (go_at_call_of 224 (Value.int .i64 2); refine (un c2 _).mono ?_; rintro e w' ⟨rfl, rfl⟩)))
 go_ret2
 exact ⟨rfl, rfl⟩
set_option maxRecDepth 100000 in
set_option maxHeartbeats 400000 in
theorem lowered_3 (w : World) : Calls Tryz.prog 223 #[.int .i32 179] w fun e w' => e = .returned (.tuple #[.int .i64 3, .bool true]) ∧ w' = w := by
 have c0 : Hid (∀ w, Calls Tryz.prog 224 #[.int .i64 0] w fun e w' => e = .returned (.int .i32 8304) ∧ w' = w) := fun w => raised_any 0 (by omega) w
 have c1 : Hid (∀ w, Calls Tryz.prog 224 #[.int .i64 1] w fun e w' => e = .returned (.int .i32 185) ∧ w' = w) := fun w => raised_any 1 (by omega) w
 have c2 : Hid (∀ w, Calls Tryz.prog 224 #[.int .i64 2] w fun e w' => e = .returned (.int .i32 178) ∧ w' = w) := fun w => raised_any 2 (by omega) w
 have c3 : Hid (∀ w, Calls Tryz.prog 224 #[.int .i64 3] w fun e w' => e = .returned (.int .i32 179) ∧ w' = w) := fun w => raised_any 3 (by omega) w
 go_enter Tryz.func223, Tryz.ntmps223
 go_wp2
 refine wp_loop_rounds 4 ?_
 repeat any_goals (rw [rounds_succ]; go_wp2_with (first
  | (go_at_call_of 224 (Value.int .i64 0); refine (un c0 _).mono ?_; rintro e w' ⟨rfl, rfl⟩)
  | (go_at_call_of 224 (Value.int .i64 1); refine (un c1 _).mono ?_; rintro e w' ⟨rfl, rfl⟩)
  | (go_at_call_of 224 (Value.int .i64 2); refine (un c2 _).mono ?_; rintro e w' ⟨rfl, rfl⟩)
  | (go_at_call_of 224 (Value.int .i64 3); refine (un c3 _).mono ?_; rintro e w' ⟨rfl, rfl⟩)))
 go_ret2
 exact ⟨rfl, rfl⟩
set_option maxRecDepth 100000 in
set_option maxHeartbeats 400000 in
theorem lowered_4 (w : World) : Calls Tryz.prog 223 #[.int .i32 8308] w fun e w' => e = .returned (.tuple #[.int .i64 4, .bool true]) ∧ w' = w := by
 have c0 : Hid (∀ w, Calls Tryz.prog 224 #[.int .i64 0] w fun e w' => e = .returned (.int .i32 8304) ∧ w' = w) := fun w => raised_any 0 (by omega) w
 have c1 : Hid (∀ w, Calls Tryz.prog 224 #[.int .i64 1] w fun e w' => e = .returned (.int .i32 185) ∧ w' = w) := fun w => raised_any 1 (by omega) w
 have c2 : Hid (∀ w, Calls Tryz.prog 224 #[.int .i64 2] w fun e w' => e = .returned (.int .i32 178) ∧ w' = w) := fun w => raised_any 2 (by omega) w
 have c3 : Hid (∀ w, Calls Tryz.prog 224 #[.int .i64 3] w fun e w' => e = .returned (.int .i32 179) ∧ w' = w) := fun w => raised_any 3 (by omega) w
 have c4 : Hid (∀ w, Calls Tryz.prog 224 #[.int .i64 4] w fun e w' => e = .returned (.int .i32 8308) ∧ w' = w) := fun w => raised_any 4 (by omega) w
 go_enter Tryz.func223, Tryz.ntmps223
 go_wp2
 refine wp_loop_rounds 5 ?_
 repeat any_goals (rw [rounds_succ]; go_wp2_with (first
  | (go_at_call_of 224 (Value.int .i64 0); refine (un c0 _).mono ?_; rintro e w' ⟨rfl, rfl⟩)
  | (go_at_call_of 224 (Value.int .i64 1); refine (un c1 _).mono ?_; rintro e w' ⟨rfl, rfl⟩)
  | (go_at_call_of 224 (Value.int .i64 2); refine (un c2 _).mono ?_; rintro e w' ⟨rfl, rfl⟩)
  | (go_at_call_of 224 (Value.int .i64 3); refine (un c3 _).mono ?_; rintro e w' ⟨rfl, rfl⟩)
  | (go_at_call_of 224 (Value.int .i64 4); refine (un c4 _).mono ?_; rintro e w' ⟨rfl, rfl⟩)))
 go_ret2
 exact ⟨rfl, rfl⟩
set_option maxRecDepth 100000 in
set_option maxHeartbeats 400000 in
theorem lowered_5 (w : World) : Calls Tryz.prog 223 #[.int .i32 8309] w fun e w' => e = .returned (.tuple #[.int .i64 5, .bool true]) ∧ w' = w := by
 have c0 : Hid (∀ w, Calls Tryz.prog 224 #[.int .i64 0] w fun e w' => e = .returned (.int .i32 8304) ∧ w' = w) := fun w => raised_any 0 (by omega) w
 have c1 : Hid (∀ w, Calls Tryz.prog 224 #[.int .i64 1] w fun e w' => e = .returned (.int .i32 185) ∧ w' = w) := fun w => raised_any 1 (by omega) w
 have c2 : Hid (∀ w, Calls Tryz.prog 224 #[.int .i64 2] w fun e w' => e = .returned (.int .i32 178) ∧ w' = w) := fun w => raised_any 2 (by omega) w
 have c3 : Hid (∀ w, Calls Tryz.prog 224 #[.int .i64 3] w fun e w' => e = .returned (.int .i32 179) ∧ w' = w) := fun w => raised_any 3 (by omega) w
 have c4 : Hid (∀ w, Calls Tryz.prog 224 #[.int .i64 4] w fun e w' => e = .returned (.int .i32 8308) ∧ w' = w) := fun w => raised_any 4 (by omega) w
 have c5 : Hid (∀ w, Calls Tryz.prog 224 #[.int .i64 5] w fun e w' => e = .returned (.int .i32 8309) ∧ w' = w) := fun w => raised_any 5 (by omega) w
 go_enter Tryz.func223, Tryz.ntmps223
 go_wp2
 refine wp_loop_rounds 6 ?_
 repeat any_goals (rw [rounds_succ]; go_wp2_with (first
  | (go_at_call_of 224 (Value.int .i64 0); refine (un c0 _).mono ?_; rintro e w' ⟨rfl, rfl⟩)
  | (go_at_call_of 224 (Value.int .i64 1); refine (un c1 _).mono ?_; rintro e w' ⟨rfl, rfl⟩)
  | (go_at_call_of 224 (Value.int .i64 2); refine (un c2 _).mono ?_; rintro e w' ⟨rfl, rfl⟩)
  | (go_at_call_of 224 (Value.int .i64 3); refine (un c3 _).mono ?_; rintro e w' ⟨rfl, rfl⟩)
  | (go_at_call_of 224 (Value.int .i64 4); refine (un c4 _).mono ?_; rintro e w' ⟨rfl, rfl⟩)
  | (go_at_call_of 224 (Value.int .i64 5); refine (un c5 _).mono ?_; rintro e w' ⟨rfl, rfl⟩)))
 go_ret2
 exact ⟨rfl, rfl⟩
set_option maxRecDepth 100000 in
set_option maxHeartbeats 400000 in
theorem lowered_6 (w : World) : Calls Tryz.prog 223 #[.int .i32 8310] w fun e w' => e = .returned (.tuple #[.int .i64 6, .bool true]) ∧ w' = w := by
 have c0 : Hid (∀ w, Calls Tryz.prog 224 #[.int .i64 0] w fun e w' => e = .returned (.int .i32 8304) ∧ w' = w) := fun w => raised_any 0 (by omega) w
 have c1 : Hid (∀ w, Calls Tryz.prog 224 #[.int .i64 1] w fun e w' => e = .returned (.int .i32 185) ∧ w' = w) := fun w => raised_any 1 (by omega) w
 have c2 : Hid (∀ w, Calls Tryz.prog 224 #[.int .i64 2] w fun e w' => e = .returned (.int .i32 178) ∧ w' = w) := fun w => raised_any 2 (by omega) w
 have c3 : Hid (∀ w, Calls Tryz.prog 224 #[.int .i64 3] w fun e w' => e = .returned (.int .i32 179) ∧ w' = w) := fun w => raised_any 3 (by omega) w
 have c4 : Hid (∀ w, Calls Tryz.prog 224 #[.int .i64 4] w fun e w' => e = .returned (.int .i32 8308) ∧ w' = w) := fun w => raised_any 4 (by omega) w
 have c5 : Hid (∀ w, Calls Tryz.prog 224 #[.int .i64 5] w fun e w' => e = .returned (.int .i32 8309) ∧ w' = w) := fun w => raised_any 5 (by omega) w
 have c6 : Hid (∀ w, Calls Tryz.prog 224 #[.int .i64 6] w fun e w' => e = .returned (.int .i32 8310) ∧ w' = w) := fun w => raised_any 6 (by omega) w
 go_enter Tryz.func223, Tryz.ntmps223
 go_wp2
 refine wp_loop_rounds 7 ?_
 repeat any_goals (rw [rounds_succ]; go_wp2_with (first
  | (go_at_call_of 224 (Value.int .i64 0); refine (un c0 _).mono ?_; rintro e w' ⟨rfl, rfl⟩)
  | (go_at_call_of 224 (Value.int .i64 1); refine (un c1 _).mono ?_; rintro e w' ⟨rfl, rfl⟩)
  | (go_at_call_of 224 (Value.int .i64 2); refine (un c2 _).mono ?_; rintro e w' ⟨rfl, rfl⟩)
  | (go_at_call_of 224 (Value.int .i64 3); refine (un c3 _).mono ?_; rintro e w' ⟨rfl, rfl⟩)
  | (go_at_call_of 224 (Value.int .i64 4); refine (un c4 _).mono ?_; rintro e w' ⟨rfl, rfl⟩)
  | (go_at_call_of 224 (Value.int .i64 5); refine (un c5 _).mono ?_; rintro e w' ⟨rfl, rfl⟩)
  | (go_at_call_of 224 (Value.int .i64 6); refine (un c6 _).mono ?_; rintro e w' ⟨rfl, rfl⟩)))
 go_ret2
 exact ⟨rfl, rfl⟩
set_option maxRecDepth 100000 in
set_option maxHeartbeats 400000 in
theorem lowered_7 (w : World) : Calls Tryz.prog 223 #[.int .i32 8311] w fun e w' => e = .returned (.tuple #[.int .i64 7, .bool true]) ∧ w' = w := by
 have c0 : Hid (∀ w, Calls Tryz.prog 224 #[.int .i64 0] w fun e w' => e = .returned (.int .i32 8304) ∧ w' = w) := fun w => raised_any 0 (by omega) w
 have c1 : Hid (∀ w, Calls Tryz.prog 224 #[.int .i64 1] w fun e w' => e = .returned (.int .i32 185) ∧ w' = w) := fun w => raised_any 1 (by omega) w
 have c2 : Hid (∀ w, Calls Tryz.prog 224 #[.int .i64 2] w fun e w' => e = .returned (.int .i32 178) ∧ w' = w) := fun w => raised_any 2 (by omega) w
 have c3 : Hid (∀ w, Calls Tryz.prog 224 #[.int .i64 3] w fun e w' => e = .returned (.int .i32 179) ∧ w' = w) := fun w => raised_any 3 (by omega) w
 have c4 : Hid (∀ w, Calls Tryz.prog 224 #[.int .i64 4] w fun e w' => e = .returned (.int .i32 8308) ∧ w' = w) := fun w => raised_any 4 (by omega) w
 have c5 : Hid (∀ w, Calls Tryz.prog 224 #[.int .i64 5] w fun e w' => e = .returned (.int .i32 8309) ∧ w' = w) := fun w => raised_any 5 (by omega) w
 have c6 : Hid (∀ w, Calls Tryz.prog 224 #[.int .i64 6] w fun e w' => e = .returned (.int .i32 8310) ∧ w' = w) := fun w => raised_any 6 (by omega) w
 have c7 : Hid (∀ w, Calls Tryz.prog 224 #[.int .i64 7] w fun e w' => e = .returned (.int .i32 8311) ∧ w' = w) := fun w => raised_any 7 (by omega) w
 go_enter Tryz.func223, Tryz.ntmps223
 go_wp2
 refine wp_loop_rounds 8 ?_
 repeat any_goals (rw [rounds_succ]; go_wp2_with (first
  | (go_at_call_of 224 (Value.int .i64 0); refine (un c0 _).mono ?_; rintro e w' ⟨rfl, rfl⟩)
  | (go_at_call_of 224 (Value.int .i64 1); refine (un c1 _).mono ?_; rintro e w' ⟨rfl, rfl⟩)
  | (go_at_call_of 224 (Value.int .i64 2); refine (un c2 _).mono ?_; rintro e w' ⟨rfl, rfl⟩)
  | (go_at_call_of 224 (Value.int .i64 3); refine (un c3 _).mono ?_; rintro e w' ⟨rfl, rfl⟩)
  | (go_at_call_of 224 (Value.int .i64 4); refine (un c4 _).mono ?_; rintro e w' ⟨rfl, rfl⟩)
  | (go_at_call_of 224 (Value.int .i64 5); refine (un c5 _).mono ?_; rintro e w' ⟨rfl, rfl⟩)
  | (go_at_call_of 224 (Value.int .i64 6); refine (un c6 _).mono ?_; rintro e w' ⟨rfl, rfl⟩)
  | (go_at_call_of 224 (Value.int .i64 7); refine (un c7 _).mono ?_; rintro e w' ⟨rfl, rfl⟩)))
 go_ret2
 exact ⟨rfl, rfl⟩
set_option maxRecDepth 100000 in
set_option maxHeartbeats 400000 in
theorem lowered_8 (w : World) : Calls Tryz.prog 223 #[.int .i32 8312] w fun e w' => e = .returned (.tuple #[.int .i64 8, .bool true]) ∧ w' = w := by
 have c0 : Hid (∀ w, Calls Tryz.prog 224 #[.int .i64 0] w fun e w' => e = .returned (.int .i32 8304) ∧ w' = w) := fun w => raised_any 0 (by omega) w
 have c1 : Hid (∀ w, Calls Tryz.prog 224 #[.int .i64 1] w fun e w' => e = .returned (.int .i32 185) ∧ w' = w) := fun w => raised_any 1 (by omega) w
 have c2 : Hid (∀ w, Calls Tryz.prog 224 #[.int .i64 2] w fun e w' => e = .returned (.int .i32 178) ∧ w' = w) := fun w => raised_any 2 (by omega) w
 have c3 : Hid (∀ w, Calls Tryz.prog 224 #[.int .i64 3] w fun e w' => e = .returned (.int .i32 179) ∧ w' = w) := fun w => raised_any 3 (by omega) w
 have c4 : Hid (∀ w, Calls Tryz.prog 224 #[.int .i64 4] w fun e w' => e = .returned (.int .i32 8308) ∧ w' = w) := fun w => raised_any 4 (by omega) w
 have c5 : Hid (∀ w, Calls Tryz.prog 224 #[.int .i64 5] w fun e w' => e = .returned (.int .i32 8309) ∧ w' = w) := fun w => raised_any 5 (by omega) w
 have c6 : Hid (∀ w, Calls Tryz.prog 224 #[.int .i64 6] w fun e w' => e = .returned (.int .i32 8310) ∧ w' = w) := fun w => raised_any 6 (by omega) w
 have c7 : Hid (∀ w, Calls Tryz.prog 224 #[.int .i64 7] w fun e w' => e = .returned (.int .i32 8311) ∧ w' = w) := fun w => raised_any 7 (by omega) w
 have c8 : Hid (∀ w, Calls Tryz.prog 224 #[.int .i64 8] w fun e w' => e = .returned (.int .i32 8312) ∧ w' = w) := fun w => raised_any 8 (by omega) w
 go_enter Tryz.func223, Tryz.ntmps223
 go_wp2
 refine wp_loop_rounds 9 ?_
 repeat any_goals (rw [rounds_succ]; go_wp2_with (first
  | (go_at_call_of 224 (Value.int .i64 0); refine (un c0 _).mono ?_; rintro e w' ⟨rfl, rfl⟩)
  | (go_at_call_of 224 (Value.int .i64 1); refine (un c1 _).mono ?_; rintro e w' ⟨rfl, rfl⟩)
  | (go_at_call_of 224 (Value.int .i64 2); refine (un c2 _).mono ?_; rintro e w' ⟨rfl, rfl⟩)
  | (go_at_call_of 224 (Value.int .i64 3); refine (un c3 _).mono ?_; rintro e w' ⟨rfl, rfl⟩)
  | (go_at_call_of 224 (Value.int .i64 4); refine (un c4 _).mono ?_; rintro e w' ⟨rfl, rfl⟩)
  | (go_at_call_of 224 (Value.int .i64 5); refine (un c5 _).mono ?_; rintro e w' ⟨rfl, rfl⟩)
  | (go_at_call_of 224 (Value.int .i64 6); refine (un c6 _).mono ?_; rintro e w' ⟨rfl, rfl⟩)
  | (go_at_call_of 224 (Value.int .i64 7); refine (un c7 _).mono ?_; rintro e w' ⟨rfl, rfl⟩)
  | (go_at_call_of 224 (Value.int .i64 8); refine (un c8 _).mono ?_; rintro e w' ⟨rfl, rfl⟩)))
 go_ret2
 exact ⟨rfl, rfl⟩
set_option maxRecDepth 100000 in
set_option maxHeartbeats 400000 in
theorem lowered_9 (w : World) : Calls Tryz.prog 223 #[.int .i32 8313] w fun e w' => e = .returned (.tuple #[.int .i64 9, .bool true]) ∧ w' = w := by
 have c0 : Hid (∀ w, Calls Tryz.prog 224 #[.int .i64 0] w fun e w' => e = .returned (.int .i32 8304) ∧ w' = w) := fun w => raised_any 0 (by omega) w
 have c1 : Hid (∀ w, Calls Tryz.prog 224 #[.int .i64 1] w fun e w' => e = .returned (.int .i32 185) ∧ w' = w) := fun w => raised_any 1 (by omega) w
 have c2 : Hid (∀ w, Calls Tryz.prog 224 #[.int .i64 2] w fun e w' => e = .returned (.int .i32 178) ∧ w' = w) := fun w => raised_any 2 (by omega) w
 have c3 : Hid (∀ w, Calls Tryz.prog 224 #[.int .i64 3] w fun e w' => e = .returned (.int .i32 179) ∧ w' = w) := fun w => raised_any 3 (by omega) w
 have c4 : Hid (∀ w, Calls Tryz.prog 224 #[.int .i64 4] w fun e w' => e = .returned (.int .i32 8308) ∧ w' = w) := fun w => raised_any 4 (by omega) w
 have c5 : Hid (∀ w, Calls Tryz.prog 224 #[.int .i64 5] w fun e w' => e = .returned (.int .i32 8309) ∧ w' = w) := fun w => raised_any 5 (by omega) w
 have c6 : Hid (∀ w, Calls Tryz.prog 224 #[.int .i64 6] w fun e w' => e = .returned (.int .i32 8310) ∧ w' = w) := fun w => raised_any 6 (by omega) w
 have c7 : Hid (∀ w, Calls Tryz.prog 224 #[.int .i64 7] w fun e w' => e = .returned (.int .i32 8311) ∧ w' = w) := fun w => raised_any 7 (by omega) w
 have c8 : Hid (∀ w, Calls Tryz.prog 224 #[.int .i64 8] w fun e w' => e = .returned (.int .i32 8312) ∧ w' = w) := fun w => raised_any 8 (by omega) w
 have c9 : Hid (∀ w, Calls Tryz.prog 224 #[.int .i64 9] w fun e w' => e = .returned (.int .i32 8313) ∧ w' = w) := fun w => raised_any 9 (by omega) w
 go_enter Tryz.func223, Tryz.ntmps223
 go_wp2
 refine wp_loop_rounds 10 ?_
 repeat any_goals (rw [rounds_succ]; go_wp2_with (first
  | (go_at_call_of 224 (Value.int .i64 0); refine (un c0 _).mono ?_; rintro e w' ⟨rfl, rfl⟩)
  | (go_at_call_of 224 (Value.int .i64 1); refine (un c1 _).mono ?_; rintro e w' ⟨rfl, rfl⟩)
  | (go_at_call_of 224 (Value.int .i64 2); refine (un c2 _).mono ?_; rintro e w' ⟨rfl, rfl⟩)
  | (go_at_call_of 224 (Value.int .i64 3); refine (un c3 _).mono ?_; rintro e w' ⟨rfl, rfl⟩)
  | (go_at_call_of 224 (Value.int .i64 4); refine (un c4 _).mono ?_; rintro e w' ⟨rfl, rfl⟩)
  | (go_at_call_of 224 (Value.int .i64 5); refine (un c5 _).mono ?_; rintro e w' ⟨rfl, rfl⟩)
  | (go_at_call_of 224 (Value.int .i64 6); refine (un c6 _).mono ?_; rintro e w' ⟨rfl, rfl⟩)
  | (go_at_call_of 224 (Value.int .i64 7); refine (un c7 _).mono ?_; rintro e w' ⟨rfl, rfl⟩)
  | (go_at_call_of 224 (Value.int .i64 8); refine (un c8 _).mono ?_; rintro e w' ⟨rfl, rfl⟩)
  | (go_at_call_of 224 (Value.int .i64 9); refine (un c9 _).mono ?_; rintro e w' ⟨rfl, rfl⟩)))
 go_ret2
 exact ⟨rfl, rfl⟩
end Go.Proofs.YthcbhnggphdflaaGreatDoor.Nm

namespace Go.Proofs.YthcbhnggphdflaaGreatDoor.Nm
open Go.RowKit
set_option maxRecDepth 100000 in
set_option maxHeartbeats 400000 in
theorem isRaised_any (r : Int) (w : World) : Calls Tryz.prog 219 #[.int .i32 r] w fun e w' => e = .returned (.bool (decide (raisedP r))) ∧ w' = w := by
 by_cases h8304 : r = 8304
 ·subst h8304
  have H := hide (lowered_0 w)
  go_enter Tryz.func219, Tryz.ntmps219
  go_wp2_with (go_at_call 223; refine (un H).mono ?_; rintro e w' ⟨rfl, rfl⟩)
  go_ret
  exact ⟨by rfl, rfl⟩
 by_cases h185 : r = 185
 ·subst h185
  have H := hide (lowered_1 w)
  go_enter Tryz.func219, Tryz.ntmps219
  go_wp2_with (go_at_call 223; refine (un H).mono ?_; rintro e w' ⟨rfl, rfl⟩)
  go_ret
  exact ⟨by rfl, rfl⟩
 by_cases h178 : r = 178
 ·subst h178
  have H := hide (lowered_2 w)
  go_enter Tryz.func219, Tryz.ntmps219
  go_wp2_with (go_at_call 223; refine (un H).mono ?_; rintro e w' ⟨rfl, rfl⟩)
  go_ret
  exact ⟨by rfl, rfl⟩
 by_cases h179 : r = 179
 ·subst h179
  have H := hide (lowered_3 w)
  go_enter Tryz.func219, Tryz.ntmps219
  go_wp2_with (go_at_call 223; refine (un H).mono ?_; rintro e w' ⟨rfl, rfl⟩)
  go_ret
  exact ⟨by rfl, rfl⟩
 by_cases h8308 : r = 8308
 ·subst h8308
  have H := hide (lowered_4 w)
  go_enter Tryz.func219, Tryz.ntmps219
  go_wp2_with (go_at_call 223; refine (un H).mono ?_; rintro e w' ⟨rfl, rfl⟩)
  go_ret
  exact ⟨by rfl, rfl⟩
 by_cases h8309 : r = 8309
 ·subst h8309
  have H := hide (lowered_5 w)
  go_enter Tryz.func219, Tryz.ntmps219
  go_wp2_with (go_at_call 223; refine (un H).mono ?_; rintro e w' ⟨rfl, rfl⟩)
  go_ret
  exact ⟨by rfl, rfl⟩
 by_cases h8310 : r = 8310
 ·subst h8310
  have H := hide (lowered_6 w)
  go_enter Tryz.func219, Tryz.ntmps219
  go_wp2_with (go_at_call 223; refine (un H).mono ?_; rintro e w' ⟨rfl, rfl⟩)
  go_ret
  exact ⟨by rfl, rfl⟩
 by_cases h8311 : r = 8311
 ·subst h8311
  have H := hide (lowered_7 w)
  go_enter Tryz.func219, Tryz.ntmps219
  go_wp2_with (go_at_call 223; refine (un H).mono ?_; rintro e w' ⟨rfl, rfl⟩)
  go_ret
  exact ⟨by rfl, rfl⟩
 by_cases h8312 : r = 8312
 ·subst h8312
  have H := hide (lowered_8 w)
  go_enter Tryz.func219, Tryz.ntmps219
  go_wp2_with (go_at_call 223; refine (un H).mono ?_; rintro e w' ⟨rfl, rfl⟩)
  go_ret
  exact ⟨by rfl, rfl⟩
 by_cases h8313 : r = 8313
 ·subst h8313
  have H := hide (lowered_9 w)
  go_enter Tryz.func219, Tryz.ntmps219
  go_wp2_with (go_at_call 223; refine (un H).mono ?_; rintro e w' ⟨rfl, rfl⟩)
  go_ret
  exact ⟨by rfl, rfl⟩
 have H := hide (lowered_no r w (by omega))
 by_cases h8314 : r = 8314
 ·subst h8314
  go_enter Tryz.func219, Tryz.ntmps219
  go_wp2_with (go_at_call 223; refine (un H).mono ?_; rintro e w' ⟨rfl, rfl⟩)
  go_ret
  exact ⟨by rfl, rfl⟩
 by_cases h8315 : r = 8315
 ·subst h8315
  go_enter Tryz.func219, Tryz.ntmps219
  go_wp2_with (go_at_call 223; refine (un H).mono ?_; rintro e w' ⟨rfl, rfl⟩)
  go_ret
  exact ⟨by rfl, rfl⟩
 have hv : decide (raisedP r) = false := by rw [decide_eq_false_iff_not]; unfold raisedP; omega
 rw [hv]
 have e1 : (r == 8314) = false := by rw [beq_eq_false_iff_ne]; exact h8314
 have e2 : (r == 8315) = false := by rw [beq_eq_false_iff_ne]; exact h8315
 clear hv h8304 h185 h178 h179 h8308 h8309 h8310 h8311 h8312 h8313 h8314 h8315
 go_enter Tryz.func219, Tryz.ntmps219
 go_wp2_with (go_at_call 223; refine (un H).mono ?_; rintro e w' ⟨rfl, rfl⟩)
 go_ret
 exact ⟨rfl, rfl⟩
set_option maxRecDepth 100000 in
set_option maxHeartbeats 400000 in
theorem class_any (r : Int) (w : World) : Calls Tryz.prog 212 #[.int .i32 r] w fun e w' => e = .returned (I (classOf r)) ∧ w' = w := by
 have HF := hide (folded_any r w)
 unfold classOf classF
 generalize foldR r = f at *
 have HL := hide (isLetter_any f w)
 have HR := hide (isRaised_any f w)
 have HS := hide (isSign_any f w)
 by_cases h1 : letterP f
 ·rw [if_pos h1]
  rw [show decide (letterP f) = true by simp [h1]] at HL
  clear h1
  go_enter Tryz.func212, Tryz.ntmps212
  go_wp2_with (first
    | (go_at_call 199; refine (un HF).mono ?_; rintro e w' ⟨rfl, rfl⟩)
    | (go_at_call 218; refine (un HL).mono ?_; rintro e w' ⟨rfl, rfl⟩)
    | (go_at_call 219; refine (un HR).mono ?_; rintro e w' ⟨rfl, rfl⟩)
    | (go_at_call 220; refine (un HS).mono ?_; rintro e w' ⟨rfl, rfl⟩))
  go_ret
  exact ⟨rfl, rfl⟩
 rw [if_neg h1]
 rw [show decide (letterP f) = false by simp [h1]] at HL
 clear h1
 by_cases h2 : 48 ≤ f ∧ f ≤ 57
 ·rw [if_pos h2]
  obtain ⟨h2, h3⟩ := h2
  go_enter Tryz.func212, Tryz.ntmps212
  go_wp2_with (first
    | (go_at_call 199; refine (un HF).mono ?_; rintro e w' ⟨rfl, rfl⟩)
    | (go_at_call 218; refine (un HL).mono ?_; rintro e w' ⟨rfl, rfl⟩)
    | (go_at_call 219; refine (un HR).mono ?_; rintro e w' ⟨rfl, rfl⟩)
    | (go_at_call 220; refine (un HS).mono ?_; rintro e w' ⟨rfl, rfl⟩))
  go_ret
  exact ⟨rfl, rfl⟩
 rw [if_neg h2]
 by_cases h3 : raisedP f
 ·rw [if_pos h3]
  rw [show decide (raisedP f) = true by simp [h3]] at HR
  clear h3
  by_cases h4 : 48 ≤ f
  ·have h5 : 57 < f := by omega
   have d57 : decide (f ≤ 57) = false := by rw [decide_eq_false_iff_not]; omega
   clear h2
   go_enter Tryz.func212, Tryz.ntmps212
   go_wp2_with (first
     | (go_at_call 199; refine (un HF).mono ?_; rintro e w' ⟨rfl, rfl⟩)
     | (go_at_call 218; refine (un HL).mono ?_; rintro e w' ⟨rfl, rfl⟩)
     | (go_at_call 219; refine (un HR).mono ?_; rintro e w' ⟨rfl, rfl⟩)
     | (go_at_call 220; refine (un HS).mono ?_; rintro e w' ⟨rfl, rfl⟩))
   go_ret
   exact ⟨rfl, rfl⟩
  ·clear h2
   go_enter Tryz.func212, Tryz.ntmps212
   go_wp2_with (first
     | (go_at_call 199; refine (un HF).mono ?_; rintro e w' ⟨rfl, rfl⟩)
     | (go_at_call 218; refine (un HL).mono ?_; rintro e w' ⟨rfl, rfl⟩)
     | (go_at_call 219; refine (un HR).mono ?_; rintro e w' ⟨rfl, rfl⟩)
     | (go_at_call 220; refine (un HS).mono ?_; rintro e w' ⟨rfl, rfl⟩))
   go_ret
   exact ⟨rfl, rfl⟩
 rw [if_neg h3]
 rw [show decide (raisedP f) = false by simp [h3]] at HR
 clear h3
 by_cases h3 : signP f
 ·rw [if_pos h3]
  rw [show decide (signP f) = true by simp [h3]] at HS
  clear h3
  by_cases h4 : 48 ≤ f
  ·have h5 : 57 < f := by omega
   have d57 : decide (f ≤ 57) = false := by rw [decide_eq_false_iff_not]; omega
   clear h2
   go_enter Tryz.func212, Tryz.ntmps212
   go_wp2_with (first
     | (go_at_call 199; refine (un HF).mono ?_; rintro e w' ⟨rfl, rfl⟩)
     | (go_at_call 218; refine (un HL).mono ?_; rintro e w' ⟨rfl, rfl⟩)
     | (go_at_call 219; refine (un HR).mono ?_; rintro e w' ⟨rfl, rfl⟩)
     | (go_at_call 220; refine (un HS).mono ?_; rintro e w' ⟨rfl, rfl⟩))
   go_ret
   exact ⟨rfl, rfl⟩
  ·clear h2
   go_enter Tryz.func212, Tryz.ntmps212
   go_wp2_with (first
     | (go_at_call 199; refine (un HF).mono ?_; rintro e w' ⟨rfl, rfl⟩)
     | (go_at_call 218; refine (un HL).mono ?_; rintro e w' ⟨rfl, rfl⟩)
     | (go_at_call 219; refine (un HR).mono ?_; rintro e w' ⟨rfl, rfl⟩)
     | (go_at_call 220; refine (un HS).mono ?_; rintro e w' ⟨rfl, rfl⟩))
   go_ret
   exact ⟨rfl, rfl⟩
 rw [if_neg h3]
 rw [show decide (signP f) = false by simp [h3]] at HS
 clear h3
 by_cases h4 : 48 ≤ f
 ·have h5 : 57 < f := by omega
  have d57 : decide (f ≤ 57) = false := by rw [decide_eq_false_iff_not]; omega
  clear h2
  go_enter Tryz.func212, Tryz.ntmps212
  go_wp2_with (first
    | (go_at_call 199; refine (un HF).mono ?_; rintro e w' ⟨rfl, rfl⟩)
    | (go_at_call 218; refine (un HL).mono ?_; rintro e w' ⟨rfl, rfl⟩)
    | (go_at_call 219; refine (un HR).mono ?_; rintro e w' ⟨rfl, rfl⟩)
    | (go_at_call 220; refine (un HS).mono ?_; rintro e w' ⟨rfl, rfl⟩))
  go_ret
  exact ⟨rfl, rfl⟩
 ·clear h2
  go_enter Tryz.func212, Tryz.ntmps212
  go_wp2_with (first
    | (go_at_call 199; refine (un HF).mono ?_; rintro e w' ⟨rfl, rfl⟩)
    | (go_at_call 218; refine (un HL).mono ?_; rintro e w' ⟨rfl, rfl⟩)
    | (go_at_call 219; refine (un HR).mono ?_; rintro e w' ⟨rfl, rfl⟩)
    | (go_at_call 220; refine (un HS).mono ?_; rintro e w' ⟨rfl, rfl⟩))
  go_ret
  exact ⟨rfl, rfl⟩
set_option maxRecDepth 100000 in
set_option maxHeartbeats 400000 in
theorem begins_any (r : Int) (w : World) : Calls Tryz.prog 195 #[.int .i32 r] w fun e w' => e = .returned (.bool (classOf r == 1 || classOf r == 4)) ∧ w' = w := by
 have H := hide (class_any r w)
 generalize classOf r = c at *
 by_cases h1 : c = 1
 ·subst h1
  go_enter Tryz.func195, Tryz.ntmps195
  go_wp2_with (go_at_call 212; refine (un H).mono ?_; rintro e w' ⟨rfl, rfl⟩)
  go_ret
  exact ⟨rfl, rfl⟩
 ·have e1 : (c == 1) = false := by rw [beq_eq_false_iff_ne]; exact h1
  rw [e1, Bool.false_or]
  clear h1
  go_enter Tryz.func195, Tryz.ntmps195
  go_wp2_with (go_at_call 212; refine (un H).mono ?_; rintro e w' ⟨rfl, rfl⟩)
  go_ret
  exact ⟨rfl, rfl⟩
end Go.Proofs.YthcbhnggphdflaaGreatDoor.Nm

namespace Go.Proofs.YthcbhnggphdflaaGreatDoor.Nm
open Go.RowKit
def goesB (a r : Int) : Bool := if classOf a = 4 then (a == 176 && classOf r == 1) else (classOf r == 1 || classOf r == 2)
set_option maxRecDepth 100000 in
set_option maxHeartbeats 400000 in
theorem goesOn_any (a r : Int) (w : World) : Calls Tryz.prog 196 #[.int .i32 a, .int .i32 r] w fun e w' => e = .returned (.bool (goesB a r)) ∧ w' = w := by
 have HR := hide (class_any r w)
 have HA := hide (class_any a w)
 unfold goesB
 generalize classOf r = c at *
 generalize classOf a = d at *
 by_cases h4 : d = 4
 ·subst h4
  rw [if_pos rfl]
  cases hx : (a == 176)
  all_goals
   go_enter Tryz.func196, Tryz.ntmps196
   go_upto_region 2 with (go_at_call 212; refine (un HR).mono ?_; rintro e w' ⟨rfl, rfl⟩)
   go_wp2_with (go_at_call 212; refine (un HA).mono ?_; rintro e w' ⟨rfl, rfl⟩)
   go_ret
   exact ⟨rfl, rfl⟩
 ·rw [if_neg h4]
  have e4 : (d == 4) = false := by rw [beq_eq_false_iff_ne]; exact h4
  clear h4
  cases hx : (c == 1)
  all_goals
   go_enter Tryz.func196, Tryz.ntmps196
   go_upto_region 2 with (go_at_call 212; refine (un HR).mono ?_; rintro e w' ⟨rfl, rfl⟩)
   go_wp2_with (go_at_call 212; refine (un HA).mono ?_; rintro e w' ⟨rfl, rfl⟩)
   go_ret
   exact ⟨rfl, rfl⟩
end Go.Proofs.YthcbhnggphdflaaGreatDoor.Nm
