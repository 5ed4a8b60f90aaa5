/- names.lowered at every rune. -/
import Derived.Test.YtiooiacebgojiaaDoorLowered
import Derived.Test.YtiooiacebgojiaaDoorShelf2
namespace Go.Proofs.YtiooiacebgojiaaDoor
open Go.RowKit

/-- A raised digit's number, or ten. -/
def figOf (r : Int) : Nat := if r = 8304 then 0 else if r = 185 then 1 else if r = 178 then 2 else if r = 179 then 3 else if r = 8308 then 4 else if r = 8309 then 5 else if r = 8310 then 6 else if r = 8311 then 7 else if r = 8312 then 8 else if r = 8313 then 9 else 10
theorem figOf_le (r : Int) : figOf r ≤ 10 := by unfold figOf; (repeat' split); all_goals omega
theorem lowered_any (r : Int) (w : World) : Calls Tryd.prog 38 #[.int .i32 r] w fun e w' => e = .returned (if figOf r < 10 then .tuple #[.int .i64 (figOf r : Nat), .bool true] else .tuple #[.int .i64 0, .bool false]) ∧ w' = w := by
  by_cases h0 : r = 8304
  · subst h0; exact lowered_0 w
  by_cases h1 : r = 185
  · subst h1; exact lowered_1 w
  by_cases h2 : r = 178
  · subst h2; exact lowered_2 w
  by_cases h3 : r = 179
  · subst h3; exact lowered_3 w
  by_cases h4 : r = 8308
  · subst h4; exact lowered_4 w
  by_cases h5 : r = 8309
  · subst h5; exact lowered_5 w
  by_cases h6 : r = 8310
  · subst h6; exact lowered_6 w
  by_cases h7 : r = 8311
  · subst h7; exact lowered_7 w
  by_cases h8 : r = 8312
  · subst h8; exact lowered_8 w
  by_cases h9 : r = 8313
  · subst h9; exact lowered_9 w
  have e : figOf r = 10 := by unfold figOf; rw [if_neg h0, if_neg h1, if_neg h2, if_neg h3, if_neg h4, if_neg h5, if_neg h6, if_neg h7, if_neg h8, if_neg h9]
  rw [e]
  exact lowered_no r w ⟨h0, h1, h2, h3, h4, h5, h6, h7, h8, h9⟩
/-- How many bytes a raised digit has. -/
def figLen (r : Int) : Nat := if r ≤ 2047 then 2 else 3
theorem fig_len (r : Int) (h : figOf r < 10) : Lib.runeLen r = (figLen r : Nat) := by
  have hr : r = 8304 ∨ r = 185 ∨ r = 178 ∨ r = 179 ∨ r = 8308 ∨ r = 8309 ∨ r = 8310 ∨ r = 8311 ∨ r = 8312 ∨ r = 8313 := by
    unfold figOf at h
    repeat' (split at h; · simp_all)
    omega
  rcases hr with rfl | rfl | rfl | rfl | rfl | rfl | rfl | rfl | rfl | rfl <;> decide
end Go.Proofs.YtiooiacebgojiaaDoor
