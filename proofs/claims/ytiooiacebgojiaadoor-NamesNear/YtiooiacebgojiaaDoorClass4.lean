/- The document's own Class; names.goesOn. -/
import Derived.Test.YtiooiacebgojiaaDoorClass3
namespace Go.Proofs.YtiooiacebgojiaaDoor
open Go.RowKit

def goesB (a r : Int) : Bool := if classOf a = 4 then (a == 176 && classOf r == 1) else (classOf r == 1 || classOf r == 2)
set_option maxRecDepth 100000 in
set_option maxHeartbeats 2000000 in
theorem rclass_any (r : Int) (w : World) : Calls Tryd.prog 14 #[.int .i32 r] w fun e w' => e = .returned (.int .i64 (classOf r)) ∧ w' = w := by
  have HF := hide (rfold_any r w)
  unfold classOf
  generalize foldR r = f at *
  by_cases h95 : f = 95
  · subst h95
    rw [show classF 95 = 1 by decide]
    go_enter Tryd.func14, Tryd.ntmps14
    go_wp2_with (go_at_call 37; refine (unhide HF).mono ?_; rintro e w' ⟨rfl, rfl⟩)
    go_ret
    exact ⟨rfl, rfl⟩
  by_cases h197 : f = 197
  · subst h197
    rw [show classF 197 = 1 by decide]
    go_enter Tryd.func14, Tryd.ntmps14
    go_wp2_with (go_at_call 37; refine (unhide HF).mono ?_; rintro e w' ⟨rfl, rfl⟩)
    go_ret
    exact ⟨rfl, rfl⟩
  by_cases h198 : f = 198
  · subst h198
    rw [show classF 198 = 1 by decide]
    go_enter Tryd.func14, Tryd.ntmps14
    go_wp2_with (go_at_call 37; refine (unhide HF).mono ?_; rintro e w' ⟨rfl, rfl⟩)
    go_ret
    exact ⟨rfl, rfl⟩
  by_cases h216 : f = 216
  · subst h216
    rw [show classF 216 = 1 by decide]
    go_enter Tryd.func14, Tryd.ntmps14
    go_wp2_with (go_at_call 37; refine (unhide HF).mono ?_; rintro e w' ⟨rfl, rfl⟩)
    go_ret
    exact ⟨rfl, rfl⟩
  by_cases h229 : f = 229
  · subst h229
    rw [show classF 229 = 1 by decide]
    go_enter Tryd.func14, Tryd.ntmps14
    go_wp2_with (go_at_call 37; refine (unhide HF).mono ?_; rintro e w' ⟨rfl, rfl⟩)
    go_ret
    exact ⟨rfl, rfl⟩
  by_cases h230 : f = 230
  · subst h230
    rw [show classF 230 = 1 by decide]
    go_enter Tryd.func14, Tryd.ntmps14
    go_wp2_with (go_at_call 37; refine (unhide HF).mono ?_; rintro e w' ⟨rfl, rfl⟩)
    go_ret
    exact ⟨rfl, rfl⟩
  by_cases h248 : f = 248
  · subst h248
    rw [show classF 248 = 1 by decide]
    go_enter Tryd.func14, Tryd.ntmps14
    go_wp2_with (go_at_call 37; refine (unhide HF).mono ?_; rintro e w' ⟨rfl, rfl⟩)
    go_ret
    exact ⟨rfl, rfl⟩
  by_cases h930 : f = 930
  · subst h930
    rw [show classF 930 = 0 by decide]
    go_enter Tryd.func14, Tryd.ntmps14
    go_wp2_with (go_at_call 37; refine (unhide HF).mono ?_; rintro e w' ⟨rfl, rfl⟩)
    go_ret
    exact ⟨rfl, rfl⟩
  by_cases h8304 : f = 8304
  · subst h8304
    rw [show classF 8304 = 3 by decide]
    go_enter Tryd.func14, Tryd.ntmps14
    go_wp2_with (go_at_call 37; refine (unhide HF).mono ?_; rintro e w' ⟨rfl, rfl⟩)
    go_ret
    exact ⟨rfl, rfl⟩
  by_cases h185 : f = 185
  · subst h185
    rw [show classF 185 = 3 by decide]
    go_enter Tryd.func14, Tryd.ntmps14
    go_wp2_with (go_at_call 37; refine (unhide HF).mono ?_; rintro e w' ⟨rfl, rfl⟩)
    go_ret
    exact ⟨rfl, rfl⟩
  by_cases h178 : f = 178
  · subst h178
    rw [show classF 178 = 3 by decide]
    go_enter Tryd.func14, Tryd.ntmps14
    go_wp2_with (go_at_call 37; refine (unhide HF).mono ?_; rintro e w' ⟨rfl, rfl⟩)
    go_ret
    exact ⟨rfl, rfl⟩
  by_cases h179 : f = 179
  · subst h179
    rw [show classF 179 = 3 by decide]
    go_enter Tryd.func14, Tryd.ntmps14
    go_wp2_with (go_at_call 37; refine (unhide HF).mono ?_; rintro e w' ⟨rfl, rfl⟩)
    go_ret
    exact ⟨rfl, rfl⟩
  by_cases h37 : f = 37
  · subst h37
    rw [show classF 37 = 4 by decide]
    go_enter Tryd.func14, Tryd.ntmps14
    go_wp2_with (go_at_call 37; refine (unhide HF).mono ?_; rintro e w' ⟨rfl, rfl⟩)
    go_ret
    exact ⟨rfl, rfl⟩
  by_cases h39 : f = 39
  · subst h39
    rw [show classF 39 = 4 by decide]
    go_enter Tryd.func14, Tryd.ntmps14
    go_wp2_with (go_at_call 37; refine (unhide HF).mono ?_; rintro e w' ⟨rfl, rfl⟩)
    go_ret
    exact ⟨rfl, rfl⟩
  by_cases h34 : f = 34
  · subst h34
    rw [show classF 34 = 4 by decide]
    go_enter Tryd.func14, Tryd.ntmps14
    go_wp2_with (go_at_call 37; refine (unhide HF).mono ?_; rintro e w' ⟨rfl, rfl⟩)
    go_ret
    exact ⟨rfl, rfl⟩
  by_cases h176 : f = 176
  · subst h176
    rw [show classF 176 = 4 by decide]
    go_enter Tryd.func14, Tryd.ntmps14
    go_wp2_with (go_at_call 37; refine (unhide HF).mono ?_; rintro e w' ⟨rfl, rfl⟩)
    go_ret
    exact ⟨rfl, rfl⟩
  by_cases h8240 : f = 8240
  · subst h8240
    rw [show classF 8240 = 4 by decide]
    go_enter Tryd.func14, Tryd.ntmps14
    go_wp2_with (go_at_call 37; refine (unhide HF).mono ?_; rintro e w' ⟨rfl, rfl⟩)
    go_ret
    exact ⟨rfl, rfl⟩
  by_cases h8451 : f = 8451
  · subst h8451
    rw [show classF 8451 = 4 by decide]
    go_enter Tryd.func14, Tryd.ntmps14
    go_wp2_with (go_at_call 37; refine (unhide HF).mono ?_; rintro e w' ⟨rfl, rfl⟩)
    go_ret
    exact ⟨rfl, rfl⟩
  by_cases h8457 : f = 8457
  · subst h8457
    rw [show classF 8457 = 4 by decide]
    go_enter Tryd.func14, Tryd.ntmps14
    go_wp2_with (go_at_call 37; refine (unhide HF).mono ?_; rintro e w' ⟨rfl, rfl⟩)
    go_ret
    exact ⟨rfl, rfl⟩
  have e95 : (f == 95) = false := by rw [beq_eq_false_iff_ne]; exact h95
  have e197 : (f == 197) = false := by rw [beq_eq_false_iff_ne]; exact h197
  have e198 : (f == 198) = false := by rw [beq_eq_false_iff_ne]; exact h198
  have e216 : (f == 216) = false := by rw [beq_eq_false_iff_ne]; exact h216
  have e229 : (f == 229) = false := by rw [beq_eq_false_iff_ne]; exact h229
  have e230 : (f == 230) = false := by rw [beq_eq_false_iff_ne]; exact h230
  have e248 : (f == 248) = false := by rw [beq_eq_false_iff_ne]; exact h248
  have e930 : (f == 930) = false := by rw [beq_eq_false_iff_ne]; exact h930
  have e8304 : (f == 8304) = false := by rw [beq_eq_false_iff_ne]; exact h8304
  have e185 : (f == 185) = false := by rw [beq_eq_false_iff_ne]; exact h185
  have e178 : (f == 178) = false := by rw [beq_eq_false_iff_ne]; exact h178
  have e179 : (f == 179) = false := by rw [beq_eq_false_iff_ne]; exact h179
  have e37 : (f == 37) = false := by rw [beq_eq_false_iff_ne]; exact h37
  have e39 : (f == 39) = false := by rw [beq_eq_false_iff_ne]; exact h39
  have e34 : (f == 34) = false := by rw [beq_eq_false_iff_ne]; exact h34
  have e176 : (f == 176) = false := by rw [beq_eq_false_iff_ne]; exact h176
  have e8240 : (f == 8240) = false := by rw [beq_eq_false_iff_ne]; exact h8240
  have e8451 : (f == 8451) = false := by rw [beq_eq_false_iff_ne]; exact h8451
  have e8457 : (f == 8457) = false := by rw [beq_eq_false_iff_ne]; exact h8457
  have n930 : (f != 930) = true := by rw [bne_iff_ne]; exact h930
  rcases (by omega : f ≤ 47 ∨ (48 ≤ f ∧ f ≤ 57) ∨ (58 ≤ f ∧ f ≤ 64) ∨ (65 ≤ f ∧ f ≤ 90) ∨ (91 ≤ f ∧ f ≤ 96) ∨ (97 ≤ f ∧ f ≤ 122) ∨ (123 ≤ f ∧ f ≤ 912) ∨ (913 ≤ f ∧ f ≤ 937) ∨ (938 ≤ f ∧ f ≤ 944) ∨ (945 ≤ f ∧ f ≤ 969) ∨ (970 ≤ f ∧ f ≤ 8307) ∨ (8308 ≤ f ∧ f ≤ 8315) ∨ 8316 ≤ f) with hi | ⟨hi, hj⟩ | ⟨hi, hj⟩ | ⟨hi, hj⟩ | ⟨hi, hj⟩ | ⟨hi, hj⟩ | ⟨hi, hj⟩ | ⟨hi, hj⟩ | ⟨hi, hj⟩ | ⟨hi, hj⟩ | ⟨hi, hj⟩ | ⟨hi, hj⟩ | hi
  · have hv : classF f = 0 := by
      unfold classF
      rw [if_neg (show ¬ (letterP f) by unfold letterP; omega)]
      rw [if_neg (show ¬ (48 ≤ f ∧ f ≤ 57) by omega)]
      rw [if_neg (show ¬ (raisedP f) by unfold raisedP; omega)]
      rw [if_neg (show ¬ (signP f) by unfold signP; omega)]
    rw [hv]
    clear hv h95 h197 h198 h216 h229 h230 h248 h930 h8304 h185 h178 h179 h37 h39 h34 h176 h8240 h8451 h8457
    go_enter Tryd.func14, Tryd.ntmps14
    go_wp2_with (go_at_call 37; refine (unhide HF).mono ?_; rintro e w' ⟨rfl, rfl⟩)
    go_ret
    exact ⟨rfl, rfl⟩
  · have hv : classF f = 2 := by
      unfold classF
      rw [if_neg (show ¬ (letterP f) by unfold letterP; omega)]
      rw [if_pos (show 48 ≤ f ∧ f ≤ 57 by omega)]
    rw [hv]
    clear hv h95 h197 h198 h216 h229 h230 h248 h930 h8304 h185 h178 h179 h37 h39 h34 h176 h8240 h8451 h8457
    go_enter Tryd.func14, Tryd.ntmps14
    go_wp2_with (go_at_call 37; refine (unhide HF).mono ?_; rintro e w' ⟨rfl, rfl⟩)
    go_ret
    exact ⟨rfl, rfl⟩
  · have hv : classF f = 0 := by
      unfold classF
      rw [if_neg (show ¬ (letterP f) by unfold letterP; omega)]
      rw [if_neg (show ¬ (48 ≤ f ∧ f ≤ 57) by omega)]
      rw [if_neg (show ¬ (raisedP f) by unfold raisedP; omega)]
      rw [if_neg (show ¬ (signP f) by unfold signP; omega)]
    rw [hv]
    have d57 : decide (f ≤ 57) = false := by rw [decide_eq_false_iff_not]; omega
    clear hv h95 h197 h198 h216 h229 h230 h248 h930 h8304 h185 h178 h179 h37 h39 h34 h176 h8240 h8451 h8457
    go_enter Tryd.func14, Tryd.ntmps14
    go_wp2_with (go_at_call 37; refine (unhide HF).mono ?_; rintro e w' ⟨rfl, rfl⟩)
    go_ret
    exact ⟨rfl, rfl⟩
  · have hv : classF f = 1 := by
      unfold classF
      rw [if_pos (show letterP f by unfold letterP; omega)]
    rw [hv]
    have d57 : decide (f ≤ 57) = false := by rw [decide_eq_false_iff_not]; omega
    clear hv h95 h197 h198 h216 h229 h230 h248 h930 h8304 h185 h178 h179 h37 h39 h34 h176 h8240 h8451 h8457
    go_enter Tryd.func14, Tryd.ntmps14
    go_wp2_with (go_at_call 37; refine (unhide HF).mono ?_; rintro e w' ⟨rfl, rfl⟩)
    go_ret
    exact ⟨rfl, rfl⟩
  · have hv : classF f = 0 := by
      unfold classF
      rw [if_neg (show ¬ (letterP f) by unfold letterP; omega)]
      rw [if_neg (show ¬ (48 ≤ f ∧ f ≤ 57) by omega)]
      rw [if_neg (show ¬ (raisedP f) by unfold raisedP; omega)]
      rw [if_neg (show ¬ (signP f) by unfold signP; omega)]
    rw [hv]
    have d57 : decide (f ≤ 57) = false := by rw [decide_eq_false_iff_not]; omega
    have d90 : decide (f ≤ 90) = false := by rw [decide_eq_false_iff_not]; omega
    clear hv h95 h197 h198 h216 h229 h230 h248 h930 h8304 h185 h178 h179 h37 h39 h34 h176 h8240 h8451 h8457
    go_enter Tryd.func14, Tryd.ntmps14
    go_wp2_with (go_at_call 37; refine (unhide HF).mono ?_; rintro e w' ⟨rfl, rfl⟩)
    go_ret
    exact ⟨rfl, rfl⟩
  · have hv : classF f = 1 := by
      unfold classF
      rw [if_pos (show letterP f by unfold letterP; omega)]
    rw [hv]
    have d57 : decide (f ≤ 57) = false := by rw [decide_eq_false_iff_not]; omega
    have d90 : decide (f ≤ 90) = false := by rw [decide_eq_false_iff_not]; omega
    clear hv h95 h197 h198 h216 h229 h230 h248 h930 h8304 h185 h178 h179 h37 h39 h34 h176 h8240 h8451 h8457
    go_enter Tryd.func14, Tryd.ntmps14
    go_wp2_with (go_at_call 37; refine (unhide HF).mono ?_; rintro e w' ⟨rfl, rfl⟩)
    go_ret
    exact ⟨rfl, rfl⟩
  · have hv : classF f = 0 := by
      unfold classF
      rw [if_neg (show ¬ (letterP f) by unfold letterP; omega)]
      rw [if_neg (show ¬ (48 ≤ f ∧ f ≤ 57) by omega)]
      rw [if_neg (show ¬ (raisedP f) by unfold raisedP; omega)]
      rw [if_neg (show ¬ (signP f) by unfold signP; omega)]
    rw [hv]
    have d57 : decide (f ≤ 57) = false := by rw [decide_eq_false_iff_not]; omega
    have d90 : decide (f ≤ 90) = false := by rw [decide_eq_false_iff_not]; omega
    have d122 : decide (f ≤ 122) = false := by rw [decide_eq_false_iff_not]; omega
    clear hv h95 h197 h198 h216 h229 h230 h248 h930 h8304 h185 h178 h179 h37 h39 h34 h176 h8240 h8451 h8457
    go_enter Tryd.func14, Tryd.ntmps14
    go_wp2_with (go_at_call 37; refine (unhide HF).mono ?_; rintro e w' ⟨rfl, rfl⟩)
    go_ret
    exact ⟨rfl, rfl⟩
  · have hv : classF f = 1 := by
      unfold classF
      rw [if_pos (show letterP f by unfold letterP; omega)]
    rw [hv]
    have d57 : decide (f ≤ 57) = false := by rw [decide_eq_false_iff_not]; omega
    have d90 : decide (f ≤ 90) = false := by rw [decide_eq_false_iff_not]; omega
    have d122 : decide (f ≤ 122) = false := by rw [decide_eq_false_iff_not]; omega
    clear hv h95 h197 h198 h216 h229 h230 h248 h930 h8304 h185 h178 h179 h37 h39 h34 h176 h8240 h8451 h8457
    go_enter Tryd.func14, Tryd.ntmps14
    go_wp2_with (go_at_call 37; refine (unhide HF).mono ?_; rintro e w' ⟨rfl, rfl⟩)
    go_ret
    exact ⟨rfl, rfl⟩
  · have hv : classF f = 0 := by
      unfold classF
      rw [if_neg (show ¬ (letterP f) by unfold letterP; omega)]
      rw [if_neg (show ¬ (48 ≤ f ∧ f ≤ 57) by omega)]
      rw [if_neg (show ¬ (raisedP f) by unfold raisedP; omega)]
      rw [if_neg (show ¬ (signP f) by unfold signP; omega)]
    rw [hv]
    have d57 : decide (f ≤ 57) = false := by rw [decide_eq_false_iff_not]; omega
    have d90 : decide (f ≤ 90) = false := by rw [decide_eq_false_iff_not]; omega
    have d122 : decide (f ≤ 122) = false := by rw [decide_eq_false_iff_not]; omega
    have d937 : decide (f ≤ 937) = false := by rw [decide_eq_false_iff_not]; omega
    clear hv h95 h197 h198 h216 h229 h230 h248 h930 h8304 h185 h178 h179 h37 h39 h34 h176 h8240 h8451 h8457
    go_enter Tryd.func14, Tryd.ntmps14
    go_wp2_with (go_at_call 37; refine (unhide HF).mono ?_; rintro e w' ⟨rfl, rfl⟩)
    go_ret
    exact ⟨rfl, rfl⟩
  · have hv : classF f = 1 := by
      unfold classF
      rw [if_pos (show letterP f by unfold letterP; omega)]
    rw [hv]
    have d57 : decide (f ≤ 57) = false := by rw [decide_eq_false_iff_not]; omega
    have d90 : decide (f ≤ 90) = false := by rw [decide_eq_false_iff_not]; omega
    have d122 : decide (f ≤ 122) = false := by rw [decide_eq_false_iff_not]; omega
    have d937 : decide (f ≤ 937) = false := by rw [decide_eq_false_iff_not]; omega
    clear hv h95 h197 h198 h216 h229 h230 h248 h930 h8304 h185 h178 h179 h37 h39 h34 h176 h8240 h8451 h8457
    go_enter Tryd.func14, Tryd.ntmps14
    go_wp2_with (go_at_call 37; refine (unhide HF).mono ?_; rintro e w' ⟨rfl, rfl⟩)
    go_ret
    exact ⟨rfl, rfl⟩
  · have hv : classF f = 0 := by
      unfold classF
      rw [if_neg (show ¬ (letterP f) by unfold letterP; omega)]
      rw [if_neg (show ¬ (48 ≤ f ∧ f ≤ 57) by omega)]
      rw [if_neg (show ¬ (raisedP f) by unfold raisedP; omega)]
      rw [if_neg (show ¬ (signP f) by unfold signP; omega)]
    rw [hv]
    have d57 : decide (f ≤ 57) = false := by rw [decide_eq_false_iff_not]; omega
    have d90 : decide (f ≤ 90) = false := by rw [decide_eq_false_iff_not]; omega
    have d122 : decide (f ≤ 122) = false := by rw [decide_eq_false_iff_not]; omega
    have d937 : decide (f ≤ 937) = false := by rw [decide_eq_false_iff_not]; omega
    have d969 : decide (f ≤ 969) = false := by rw [decide_eq_false_iff_not]; omega
    clear hv h95 h197 h198 h216 h229 h230 h248 h930 h8304 h185 h178 h179 h37 h39 h34 h176 h8240 h8451 h8457
    go_enter Tryd.func14, Tryd.ntmps14
    go_wp2_with (go_at_call 37; refine (unhide HF).mono ?_; rintro e w' ⟨rfl, rfl⟩)
    go_ret
    exact ⟨rfl, rfl⟩
  · have hv : classF f = 3 := by
      unfold classF
      rw [if_neg (show ¬ (letterP f) by unfold letterP; omega)]
      rw [if_neg (show ¬ (48 ≤ f ∧ f ≤ 57) by omega)]
      rw [if_pos (show raisedP f by unfold raisedP; omega)]
    rw [hv]
    have d57 : decide (f ≤ 57) = false := by rw [decide_eq_false_iff_not]; omega
    have d90 : decide (f ≤ 90) = false := by rw [decide_eq_false_iff_not]; omega
    have d122 : decide (f ≤ 122) = false := by rw [decide_eq_false_iff_not]; omega
    have d937 : decide (f ≤ 937) = false := by rw [decide_eq_false_iff_not]; omega
    have d969 : decide (f ≤ 969) = false := by rw [decide_eq_false_iff_not]; omega
    clear hv h95 h197 h198 h216 h229 h230 h248 h930 h8304 h185 h178 h179 h37 h39 h34 h176 h8240 h8451 h8457
    go_enter Tryd.func14, Tryd.ntmps14
    go_wp2_with (go_at_call 37; refine (unhide HF).mono ?_; rintro e w' ⟨rfl, rfl⟩)
    go_ret
    exact ⟨rfl, rfl⟩
  · have hv : classF f = 0 := by
      unfold classF
      rw [if_neg (show ¬ (letterP f) by unfold letterP; omega)]
      rw [if_neg (show ¬ (48 ≤ f ∧ f ≤ 57) by omega)]
      rw [if_neg (show ¬ (raisedP f) by unfold raisedP; omega)]
      rw [if_neg (show ¬ (signP f) by unfold signP; omega)]
    rw [hv]
    have d57 : decide (f ≤ 57) = false := by rw [decide_eq_false_iff_not]; omega
    have d90 : decide (f ≤ 90) = false := by rw [decide_eq_false_iff_not]; omega
    have d122 : decide (f ≤ 122) = false := by rw [decide_eq_false_iff_not]; omega
    have d937 : decide (f ≤ 937) = false := by rw [decide_eq_false_iff_not]; omega
    have d969 : decide (f ≤ 969) = false := by rw [decide_eq_false_iff_not]; omega
    have d8315 : decide (f ≤ 8315) = false := by rw [decide_eq_false_iff_not]; omega
    clear hv h95 h197 h198 h216 h229 h230 h248 h930 h8304 h185 h178 h179 h37 h39 h34 h176 h8240 h8451 h8457
    go_enter Tryd.func14, Tryd.ntmps14
    go_wp2_with (go_at_call 37; refine (unhide HF).mono ?_; rintro e w' ⟨rfl, rfl⟩)
    go_ret
    exact ⟨rfl, rfl⟩
set_option maxRecDepth 100000 in
set_option maxHeartbeats 400000 in
theorem goesOn_any (a r : Int) (w : World) : Calls Tryd.prog 54 #[.int .i32 a, .int .i32 r] w fun e w' => e = .returned (.bool (goesB a r)) ∧ w' = w := by
  have HR := hide (class_any r w)
  have HA := hide (class_any a w)
  unfold goesB
  generalize classOf r = c at *
  generalize classOf a = d at *
  by_cases h4 : d = 4
  · subst h4
    rw [if_pos rfl]
    cases hx : (a == 176)
    all_goals
      go_enter Tryd.func54, Tryd.ntmps54
      go_upto_region 2 with (go_at_call 13; refine (unhide HR).mono ?_; rintro e w' ⟨rfl, rfl⟩)
      go_wp2_with (go_at_call 13; refine (unhide HA).mono ?_; rintro e w' ⟨rfl, rfl⟩)
      go_ret
      exact ⟨rfl, rfl⟩
  · rw [if_neg h4]
    have e4 : (d == 4) = false := by rw [beq_eq_false_iff_ne]; exact h4
    clear h4
    cases hx : (c == 1)
    all_goals
      go_enter Tryd.func54, Tryd.ntmps54
      go_upto_region 2 with (go_at_call 13; refine (unhide HR).mono ?_; rintro e w' ⟨rfl, rfl⟩)
      go_wp2_with (go_at_call 13; refine (unhide HA).mono ?_; rintro e w' ⟨rfl, rfl⟩)
      go_ret
      exact ⟨rfl, rfl⟩
end Go.Proofs.YtiooiacebgojiaaDoor
