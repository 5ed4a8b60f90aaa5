/- known: what must come of fixed calls. -/
import Derived.Test.YthcihkgellginaaDoorOfTwo
namespace Go.Proofs.YthcihkgellginaaDoor
open Go.RowKit

theorem told_small (n k : Nat) (hk : k ≤ 600) (h : n < 10 ^ k) : toldText n = Lib.decDigits n ∧ toldErr n = 0 := by
  have h2 := Nat.lt_of_lt_of_le h (Nat.pow_le_pow_right (n := 10) (by decide) hk)
  exact ⟨if_pos h2, if_pos h2⟩
theorem told_1000 : toldText 1000 = [49, 48, 48, 48] ∧ toldErr 1000 = 0 := by
  obtain ⟨h1, h2⟩ := told_small 1000 4 (by omega) (by decide)
  exact ⟨h1.trans (by decide +kernel), h2⟩

theorem right_999 : Cub.rightB [57, 57, 57] = true := by decide +kernel
theorem right_1 : Cub.rightB [49] = true := by decide +kernel
theorem right_7 : Cub.rightB [55] = true := by decide +kernel
theorem right_07 : Cub.rightB [48, 55] = false := by decide +kernel
theorem dval_999 : Nat.add (Cub.dval [57, 57, 57]) (Cub.dval [49]) = 1000 := by decide +kernel

theorem known_add (w : World) (htab : Tab w) : Calls Tryd.prog 17 #[.string ⟨#[57, 57, 57]⟩, .string ⟨#[49]⟩] w fun e w' => e = .returned (.tuple #[.string ⟨#[49, 48, 48, 48]⟩, .int .i64 0]) ∧ Below w.heap.size w w' := by
  have h := natAdd_any ⟨#[57, 57, 57]⟩ ⟨#[49]⟩ w (by decide) (by decide) htab
  simp only [right_999, right_1, dval_999, told_1000.1, told_1000.2, Bool.and_self, if_true] at h
  exact h
theorem known_7 (w : World) : Calls Tryd.prog 13 #[.string ⟨#[55]⟩] w fun e w' => e = .returned (.bool true) ∧ w' = w := by
  have h := right_any ⟨#[55]⟩ w (by decide)
  simp only [right_7] at h
  exact h
theorem known_07 (w : World) : Calls Tryd.prog 13 #[.string ⟨#[48, 55]⟩] w fun e w' => e = .returned (.bool false) ∧ w' = w := by
  have h := right_any ⟨#[48, 55]⟩ w (by decide)
  simp only [right_07] at h
  exact h

set_option maxRecDepth 100000 in
set_option maxHeartbeats 400000 in
theorem known_any (w : World) (htab : Tab w) : Calls Tryd.prog 16 #[] w fun e w' => e = .returned (.bool true) ∧ Below w.heap.size w w' := by
  have HT := hide htab
  clear htab
  go_enter Tryd.func16, Tryd.ntmps16
  go_wp2_with (first
    | (go_at_call 17; refine (known_add _ (unhide HT)).mono ?_; rintro e w2 ⟨rfl, hb2⟩)
    | (go_at_call_of 13 (Value.string (ByteArray.mk #[55])); refine (known_7 _).mono ?_; rintro e w' ⟨rfl, rfl⟩)
    | (go_at_call_of 13 (Value.string (ByteArray.mk #[48, 55])); refine (known_07 _).mono ?_; rintro e w' ⟨rfl, rfl⟩))
  go_ret
  exact ⟨rfl, hb2⟩
end Go.Proofs.YthcihkgellginaaDoor
