/- The document's own Class; names.goesOn. -/
import Derived.Test.YtiooiacebgojiabDoorClass3
namespace Go.Proofs.YtiooiacebgojiabDoor
open Go.RowKit

def goesB (a r : Int) : Bool := if classOf a = 4 then (a == 176 && classOf r == 1) else (classOf r == 1 || classOf r == 2)
set_option maxRecDepth 100000 in
set_option maxHeartbeats 400000 in
theorem goesOn_any (a r : Int) (w : World) : Calls Tryd.prog 38 #[.int .i32 a, .int .i32 r] w fun e w' => e = .returned (.bool (goesB a r)) ∧ w' = w := by
  have HR := hide (class_any r w)
  have HA := hide (class_any a w)
  unfold goesB
  generalize classOf r = c at *
  generalize classOf a = d at *
  by_cases h4 : d = 4
  · subst h4
    rw [if_pos rfl]
    cases hx : (a == 176)
    all_goals
      go_enter Tryd.func38, Tryd.ntmps38
      go_upto_region 2 with (go_at_call 11; refine (unhide HR).mono ?_; rintro e w' ⟨rfl, rfl⟩)
      go_wp2_with (go_at_call 11; refine (unhide HA).mono ?_; rintro e w' ⟨rfl, rfl⟩)
      go_ret
      exact ⟨rfl, rfl⟩
  · rw [if_neg h4]
    have e4 : (d == 4) = false := by rw [beq_eq_false_iff_ne]; exact h4
    clear h4
    cases hx : (c == 1)
    all_goals
      go_enter Tryd.func38, Tryd.ntmps38
      go_upto_region 2 with (go_at_call 11; refine (unhide HR).mono ?_; rintro e w' ⟨rfl, rfl⟩)
      go_wp2_with (go_at_call 11; refine (unhide HA).mono ?_; rintro e w' ⟨rfl, rfl⟩)
      go_ret
      exact ⟨rfl, rfl⟩
end Go.Proofs.YtiooiacebgojiabDoor
