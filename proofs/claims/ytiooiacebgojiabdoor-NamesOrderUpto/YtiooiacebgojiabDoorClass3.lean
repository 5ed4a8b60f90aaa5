/- names.isRaised, Class, begins, goesOn; the document's own Class. -/
import Derived.Test.YtiooiacebgojiabDoorLowered
namespace Go.Proofs.YtiooiacebgojiabDoor
open Go.RowKit

set_option maxRecDepth 100000 in
set_option maxHeartbeats 400000 in
theorem isRaised_any (r : Int) (w : World) : Calls Tryd.prog 22 #[.int .i32 r] w fun e w' => e = .returned (.bool (decide (raisedP r))) ∧ w' = w := by
  by_cases h8304 : r = 8304
  · subst h8304
    have H := hide (lowered_0 w)
    go_enter Tryd.func22, Tryd.ntmps22
    go_wp2_with (go_at_call 28; refine (unhide H).mono ?_; rintro e w' ⟨rfl, rfl⟩)
    go_ret
    exact ⟨by rfl, rfl⟩
  by_cases h185 : r = 185
  · subst h185
    have H := hide (lowered_1 w)
    go_enter Tryd.func22, Tryd.ntmps22
    go_wp2_with (go_at_call 28; refine (unhide H).mono ?_; rintro e w' ⟨rfl, rfl⟩)
    go_ret
    exact ⟨by rfl, rfl⟩
  by_cases h178 : r = 178
  · subst h178
    have H := hide (lowered_2 w)
    go_enter Tryd.func22, Tryd.ntmps22
    go_wp2_with (go_at_call 28; refine (unhide H).mono ?_; rintro e w' ⟨rfl, rfl⟩)
    go_ret
    exact ⟨by rfl, rfl⟩
  by_cases h179 : r = 179
  · subst h179
    have H := hide (lowered_3 w)
    go_enter Tryd.func22, Tryd.ntmps22
    go_wp2_with (go_at_call 28; refine (unhide H).mono ?_; rintro e w' ⟨rfl, rfl⟩)
    go_ret
    exact ⟨by rfl, rfl⟩
  by_cases h8308 : r = 8308
  · subst h8308
    have H := hide (lowered_4 w)
    go_enter Tryd.func22, Tryd.ntmps22
    go_wp2_with (go_at_call 28; refine (unhide H).mono ?_; rintro e w' ⟨rfl, rfl⟩)
    go_ret
    exact ⟨by rfl, rfl⟩
  by_cases h8309 : r = 8309
  · subst h8309
    have H := hide (lowered_5 w)
    go_enter Tryd.func22, Tryd.ntmps22
    go_wp2_with (go_at_call 28; refine (unhide H).mono ?_; rintro e w' ⟨rfl, rfl⟩)
    go_ret
    exact ⟨by rfl, rfl⟩
  by_cases h8310 : r = 8310
  · subst h8310
    have H := hide (lowered_6 w)
    go_enter Tryd.func22, Tryd.ntmps22
    go_wp2_with (go_at_call 28; refine (unhide H).mono ?_; rintro e w' ⟨rfl, rfl⟩)
    go_ret
    exact ⟨by rfl, rfl⟩
  by_cases h8311 : r = 8311
  · subst h8311
    have H := hide (lowered_7 w)
    go_enter Tryd.func22, Tryd.ntmps22
    go_wp2_with (go_at_call 28; refine (unhide H).mono ?_; rintro e w' ⟨rfl, rfl⟩)
    go_ret
    exact ⟨by rfl, rfl⟩
  by_cases h8312 : r = 8312
  · subst h8312
    have H := hide (lowered_8 w)
    go_enter Tryd.func22, Tryd.ntmps22
    go_wp2_with (go_at_call 28; refine (unhide H).mono ?_; rintro e w' ⟨rfl, rfl⟩)
    go_ret
    exact ⟨by rfl, rfl⟩
  by_cases h8313 : r = 8313
  · subst h8313
    have H := hide (lowered_9 w)
    go_enter Tryd.func22, Tryd.ntmps22
    go_wp2_with (go_at_call 28; refine (unhide H).mono ?_; rintro e w' ⟨rfl, rfl⟩)
    go_ret
    exact ⟨by rfl, rfl⟩
  have H := hide (lowered_no r w (by omega))
  by_cases h8314 : r = 8314
  · subst h8314
    go_enter Tryd.func22, Tryd.ntmps22
    go_wp2_with (go_at_call 28; refine (unhide H).mono ?_; rintro e w' ⟨rfl, rfl⟩)
    go_ret
    exact ⟨by rfl, rfl⟩
  by_cases h8315 : r = 8315
  · subst h8315
    go_enter Tryd.func22, Tryd.ntmps22
    go_wp2_with (go_at_call 28; refine (unhide H).mono ?_; rintro e w' ⟨rfl, rfl⟩)
    go_ret
    exact ⟨by rfl, rfl⟩
  have hv : decide (raisedP r) = false := by rw [decide_eq_false_iff_not]; unfold raisedP; omega
  rw [hv]
  have e1 : (r == 8314) = false := by rw [beq_eq_false_iff_ne]; exact h8314
  have e2 : (r == 8315) = false := by rw [beq_eq_false_iff_ne]; exact h8315
  clear hv h8304 h185 h178 h179 h8308 h8309 h8310 h8311 h8312 h8313 h8314 h8315
  go_enter Tryd.func22, Tryd.ntmps22
  go_wp2_with (go_at_call 28; refine (unhide H).mono ?_; rintro e w' ⟨rfl, rfl⟩)
  go_ret
  exact ⟨rfl, rfl⟩
set_option maxRecDepth 100000 in
set_option maxHeartbeats 400000 in
theorem class_any (r : Int) (w : World) : Calls Tryd.prog 11 #[.int .i32 r] w fun e w' => e = .returned (.int .i64 (classOf r)) ∧ w' = w := by
  have HF := hide (folded_any r w)
  unfold classOf classF
  generalize foldR r = f at *
  have HL := hide (isLetter_any f w)
  have HR := hide (isRaised_any f w)
  have HS := hide (isSign_any f w)
  by_cases h1 : letterP f
  · rw [if_pos h1]
    rw [show decide (letterP f) = true by simp [h1]] at HL
    clear h1
    go_enter Tryd.func11, Tryd.ntmps11
    go_wp2_with (first
        | (go_at_call 20; refine (unhide HF).mono ?_; rintro e w' ⟨rfl, rfl⟩)
        | (go_at_call 21; refine (unhide HL).mono ?_; rintro e w' ⟨rfl, rfl⟩)
        | (go_at_call 22; refine (unhide HR).mono ?_; rintro e w' ⟨rfl, rfl⟩)
        | (go_at_call 23; refine (unhide HS).mono ?_; rintro e w' ⟨rfl, rfl⟩))
    go_ret
    exact ⟨rfl, rfl⟩
  rw [if_neg h1]
  rw [show decide (letterP f) = false by simp [h1]] at HL
  clear h1
  by_cases h2 : 48 ≤ f ∧ f ≤ 57
  · rw [if_pos h2]
    obtain ⟨h2, h3⟩ := h2
    go_enter Tryd.func11, Tryd.ntmps11
    go_wp2_with (first
        | (go_at_call 20; refine (unhide HF).mono ?_; rintro e w' ⟨rfl, rfl⟩)
        | (go_at_call 21; refine (unhide HL).mono ?_; rintro e w' ⟨rfl, rfl⟩)
        | (go_at_call 22; refine (unhide HR).mono ?_; rintro e w' ⟨rfl, rfl⟩)
        | (go_at_call 23; refine (unhide HS).mono ?_; rintro e w' ⟨rfl, rfl⟩))
    go_ret
    exact ⟨rfl, rfl⟩
  rw [if_neg h2]
  by_cases h3 : raisedP f
  · rw [if_pos h3]
    rw [show decide (raisedP f) = true by simp [h3]] at HR
    clear h3
    by_cases h4 : 48 ≤ f
    · have h5 : 57 < f := by omega
      have d57 : decide (f ≤ 57) = false := by rw [decide_eq_false_iff_not]; omega
      clear h2
      go_enter Tryd.func11, Tryd.ntmps11
      go_wp2_with (first
          | (go_at_call 20; refine (unhide HF).mono ?_; rintro e w' ⟨rfl, rfl⟩)
          | (go_at_call 21; refine (unhide HL).mono ?_; rintro e w' ⟨rfl, rfl⟩)
          | (go_at_call 22; refine (unhide HR).mono ?_; rintro e w' ⟨rfl, rfl⟩)
          | (go_at_call 23; refine (unhide HS).mono ?_; rintro e w' ⟨rfl, rfl⟩))
      go_ret
      exact ⟨rfl, rfl⟩
    · clear h2
      go_enter Tryd.func11, Tryd.ntmps11
      go_wp2_with (first
          | (go_at_call 20; refine (unhide HF).mono ?_; rintro e w' ⟨rfl, rfl⟩)
          | (go_at_call 21; refine (unhide HL).mono ?_; rintro e w' ⟨rfl, rfl⟩)
          | (go_at_call 22; refine (unhide HR).mono ?_; rintro e w' ⟨rfl, rfl⟩)
          | (go_at_call 23; refine (unhide HS).mono ?_; rintro e w' ⟨rfl, rfl⟩))
      go_ret
      exact ⟨rfl, rfl⟩
  rw [if_neg h3]
  rw [show decide (raisedP f) = false by simp [h3]] at HR
  clear h3
  by_cases h3 : signP f
  · rw [if_pos h3]
    rw [show decide (signP f) = true by simp [h3]] at HS
    clear h3
    by_cases h4 : 48 ≤ f
    · have h5 : 57 < f := by omega
      have d57 : decide (f ≤ 57) = false := by rw [decide_eq_false_iff_not]; omega
      clear h2
      go_enter Tryd.func11, Tryd.ntmps11
      go_wp2_with (first
          | (go_at_call 20; refine (unhide HF).mono ?_; rintro e w' ⟨rfl, rfl⟩)
          | (go_at_call 21; refine (unhide HL).mono ?_; rintro e w' ⟨rfl, rfl⟩)
          | (go_at_call 22; refine (unhide HR).mono ?_; rintro e w' ⟨rfl, rfl⟩)
          | (go_at_call 23; refine (unhide HS).mono ?_; rintro e w' ⟨rfl, rfl⟩))
      go_ret
      exact ⟨rfl, rfl⟩
    · clear h2
      go_enter Tryd.func11, Tryd.ntmps11
      go_wp2_with (first
          | (go_at_call 20; refine (unhide HF).mono ?_; rintro e w' ⟨rfl, rfl⟩)
          | (go_at_call 21; refine (unhide HL).mono ?_; rintro e w' ⟨rfl, rfl⟩)
          | (go_at_call 22; refine (unhide HR).mono ?_; rintro e w' ⟨rfl, rfl⟩)
          | (go_at_call 23; refine (unhide HS).mono ?_; rintro e w' ⟨rfl, rfl⟩))
      go_ret
      exact ⟨rfl, rfl⟩
  rw [if_neg h3]
  rw [show decide (signP f) = false by simp [h3]] at HS
  clear h3
  by_cases h4 : 48 ≤ f
  · have h5 : 57 < f := by omega
    have d57 : decide (f ≤ 57) = false := by rw [decide_eq_false_iff_not]; omega
    clear h2
    go_enter Tryd.func11, Tryd.ntmps11
    go_wp2_with (first
        | (go_at_call 20; refine (unhide HF).mono ?_; rintro e w' ⟨rfl, rfl⟩)
        | (go_at_call 21; refine (unhide HL).mono ?_; rintro e w' ⟨rfl, rfl⟩)
        | (go_at_call 22; refine (unhide HR).mono ?_; rintro e w' ⟨rfl, rfl⟩)
        | (go_at_call 23; refine (unhide HS).mono ?_; rintro e w' ⟨rfl, rfl⟩))
    go_ret
    exact ⟨rfl, rfl⟩
  · clear h2
    go_enter Tryd.func11, Tryd.ntmps11
    go_wp2_with (first
        | (go_at_call 20; refine (unhide HF).mono ?_; rintro e w' ⟨rfl, rfl⟩)
        | (go_at_call 21; refine (unhide HL).mono ?_; rintro e w' ⟨rfl, rfl⟩)
        | (go_at_call 22; refine (unhide HR).mono ?_; rintro e w' ⟨rfl, rfl⟩)
        | (go_at_call 23; refine (unhide HS).mono ?_; rintro e w' ⟨rfl, rfl⟩))
    go_ret
    exact ⟨rfl, rfl⟩
set_option maxRecDepth 100000 in
set_option maxHeartbeats 400000 in
theorem begins_any (r : Int) (w : World) : Calls Tryd.prog 37 #[.int .i32 r] w fun e w' => e = .returned (.bool (classOf r == 1 || classOf r == 4)) ∧ w' = w := by
  have H := hide (class_any r w)
  generalize classOf r = c at *
  by_cases h1 : c = 1
  · subst h1
    go_enter Tryd.func37, Tryd.ntmps37
    go_wp2_with (go_at_call 11; refine (unhide H).mono ?_; rintro e w' ⟨rfl, rfl⟩)
    go_ret
    exact ⟨rfl, rfl⟩
  · have e1 : (c == 1) = false := by rw [beq_eq_false_iff_ne]; exact h1
    rw [e1, Bool.false_or]
    clear h1
    go_enter Tryd.func37, Tryd.ntmps37
    go_wp2_with (go_at_call 11; refine (unhide H).mono ?_; rintro e w' ⟨rfl, rfl⟩)
    go_ret
    exact ⟨rfl, rfl⟩
end Go.Proofs.YtiooiacebgojiabDoor
