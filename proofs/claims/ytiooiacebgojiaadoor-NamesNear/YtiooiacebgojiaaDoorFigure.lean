/- The document's figure: the number of a raised digit, or -1. -/
import Derived.Test.YtiooiacebgojiaaDoorLow
import Derived.Deep.Cut
namespace Go.Proofs.YtiooiacebgojiaaDoor
open Go.RowKit

def figI (r : Int) : Int := if figOf r < 10 then (figOf r : Int) else -1
set_option maxRecDepth 100000 in
set_option maxHeartbeats 1000000 in
theorem figure_any (r f : Int) (b : Bool) (p n : Int) (w : World) (hr0 : 0 ≤ r) (hr1 : r ≤ 2147483647) : Calls Tryd.prog 40 #[.agg #[.int .i32 r, .int .i32 f, .bool b, .int .i64 p, .int .i64 n]] w fun e w' => e = .returned (.int .i64 (figI r)) ∧ Below w.heap.size w w' := by
  have hcase : r = 8304 ∨ r = 185 ∨ r = 178 ∨ r = 179 ∨ r = 8308 ∨ r = 8309 ∨ r = 8310 ∨ r = 8311 ∨ r = 8312 ∨ r = 8313 ∨ ¬ (r = 8304 ∨ r = 185 ∨ r = 178 ∨ r = 179 ∨ r = 8308 ∨ r = 8309 ∨ r = 8310 ∨ r = 8311 ∨ r = 8312 ∨ r = 8313) := by omega
  rcases hcase with rfl | rfl | rfl | rfl | rfl | rfl | rfl | rfl | rfl | rfl | hno
  case inr.inr.inr.inr.inr.inr.inr.inr.inr.inr =>
    have e0 : (r == 8304) = false := by rw [beq_eq_false_iff_ne]; omega
    have e1 : (r == 185) = false := by rw [beq_eq_false_iff_ne]; omega
    have e2 : (r == 178) = false := by rw [beq_eq_false_iff_ne]; omega
    have e3 : (r == 179) = false := by rw [beq_eq_false_iff_ne]; omega
    have HV : Hid (figI r = -1) := by
      show _ = _
      have e : figOf r = 10 := by unfold figOf; rw [if_neg (by omega), if_neg (by omega), if_neg (by omega), if_neg (by omega), if_neg (by omega), if_neg (by omega), if_neg (by omega), if_neg (by omega), if_neg (by omega), if_neg (by omega)]
      unfold figI
      rw [e]
      rfl
    by_cases hge : 8308 ≤ r
    · have d1 : decide (8308 ≤ r) = true := by simp [hge]
      have d2 : decide (r ≤ 8313) = false := by rw [decide_eq_false_iff_not]; omega
      clear hno hge
      go_enter Tryd.func40, Tryd.ntmps40
      go_wp2
      go_ret
      exact ⟨by rw [unhide HV]; rfl, (Below.refl _ _).alloc (Nat.le_refl _) _⟩
    · have d1 : decide (8308 ≤ r) = false := by simp [hge]
      clear hno hge
      go_enter Tryd.func40, Tryd.ntmps40
      go_wp2
      go_ret
      exact ⟨by rw [unhide HV]; rfl, (Below.refl _ _).alloc (Nat.le_refl _) _⟩
  all_goals
    go_enter Tryd.func40, Tryd.ntmps40
    go_wp2
    go_ret
    exact ⟨rfl, (Below.refl _ _).alloc (Nat.le_refl _) _⟩
end Go.Proofs.YtiooiacebgojiaaDoor
