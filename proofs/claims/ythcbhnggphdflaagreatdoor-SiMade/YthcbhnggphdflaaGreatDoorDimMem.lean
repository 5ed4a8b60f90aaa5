/- Dimensions in memory. -/
import Derived.Test.YthcbhnggphdflaaGreatDoorProg
import Derived.WalkKit
import Derived.WalkSpells
import Derived.WalkLawsBesides
import Derived.Handy
import Derived.Deep.RegionWith
import Derived.Laws.Tables
import Derived.Laws.CopyOwn
import Derived.Laws.ResultCell
namespace Go.Proofs.YthcbhnggphdflaaGreatDoor.Dm
open Go.RowKit

theorem hide {p : Prop} (h : p) : Hid p := h
theorem un {p : Prop} (h : Hid p) : p := h

/-- One exponent is within its bounds. -/
def okB (x : Int) : Bool := !(decide (x < -99) || decide (99 < x))
/-- All are. -/
def rightB (l : List Int) : Bool := l.all okB

theorem okB_lo {x : Int} (h : x < -99) : okB x = false := by simp [okB, h]
theorem okB_hi {x : Int} (h : x < -99 ∨ 99 < x) : okB x = false := by rcases h with h | h <;> simp [okB, h]
theorem okB_yes {x : Int} (h1 : -99 ≤ x) (h2 : x ≤ 99) : okB x = true := by simp [okB]; omega
theorem okB_out {x : Int} (h : okB x = true) : -99 ≤ x ∧ x ≤ 99 := by simp [okB] at h; omega

theorem rightB_false {l : List Int} (k : Nat) (x : Int) (hk : l[k]? = some x) (h : okB x = false) : rightB l = false := by
  unfold rightB
  rw [List.all_eq_false]
  exact ⟨x, List.mem_of_getElem? hk, by simp [h]⟩
theorem rightB_true {l : List Int} (h : ∀ (j : Nat) (x : Int), l[j]? = some x → okB x = true) : rightB l = true := by
  unfold rightB
  rw [List.all_eq_true]
  intro x hx
  obtain ⟨j, hj⟩ := List.getElem?_of_mem hx
  exact h j x hj
theorem rightB_get {l : List Int} (h : rightB l = true) (j : Nat) (x : Int) (hj : l[j]? = some x) : -99 ≤ x ∧ x ≤ 99 := by
  unfold rightB at h
  rw [List.all_eq_true] at h
  exact okB_out (h x (List.mem_of_getElem? hj))

/-- What holds of the first k. -/
def OkTo (l : List Int) (k : Nat) : Prop := ∀ j, j < k → ∀ x, l[j]? = some x → okB x = true
theorem OkTo.zero (l : List Int) : OkTo l 0 := fun j h => absurd h (Nat.not_lt_zero j)
theorem OkTo.step {l : List Int} {k : Nat} (h : OkTo l k) {x : Int} (hk : l[k]? = some x) (hx : okB x = true) : OkTo l (k + 1) := by
  intro j hj y hy
  by_cases e : j = k
  · subst e; rw [hk] at hy; cases hy; exact hx
  · exact h j (by omega) y hy
theorem OkTo.all {l : List Int} {k : Nat} (h : OkTo l k) (hl : l.length ≤ k) : rightB l = true :=
  rightB_true fun j x hj => h j (by have := (List.getElem?_eq_some_iff.1 hj).1; omega) x hj
theorem ret_bool {a b : Bool} (h : a = b) : Ending.returned (.bool a) = .returned (.bool b) := by rw [h]

/-- What is told: x, or 0. -/
def sel (b : Bool) (x : Int) : Int := if b = true then x else 0
def errOf (b : Bool) (n : Int) : Int := if b = true then 0 else n
theorem sel_true (x : Int) : sel true x = x := rfl
theorem sel_false (x : Int) : sel false x = 0 := rfl
theorem errOf_true (x : Int) : errOf true x = 0 := rfl
theorem errOf_false (x : Int) : errOf false x = x := rfl

section
variable (x0 x1 x2 x3 x4 x5 x6 x7 : Int)
theorem idx0 (w : World) : (Instr.index 26 (.agg #[.int .i64 x0, .int .i64 x1, .int .i64 x2, .int .i64 x3, .int .i64 x4, .int .i64 x5, .int .i64 x6, .int .i64 x7]) (.int .i64 0)).run Tryz.prog w = .ok (.int .i64 x0) w := by kernel_rfl
theorem idx1 (w : World) : (Instr.index 26 (.agg #[.int .i64 x0, .int .i64 x1, .int .i64 x2, .int .i64 x3, .int .i64 x4, .int .i64 x5, .int .i64 x6, .int .i64 x7]) (.int .i64 1)).run Tryz.prog w = .ok (.int .i64 x1) w := by kernel_rfl
theorem idx2 (w : World) : (Instr.index 26 (.agg #[.int .i64 x0, .int .i64 x1, .int .i64 x2, .int .i64 x3, .int .i64 x4, .int .i64 x5, .int .i64 x6, .int .i64 x7]) (.int .i64 2)).run Tryz.prog w = .ok (.int .i64 x2) w := by kernel_rfl
theorem idx3 (w : World) : (Instr.index 26 (.agg #[.int .i64 x0, .int .i64 x1, .int .i64 x2, .int .i64 x3, .int .i64 x4, .int .i64 x5, .int .i64 x6, .int .i64 x7]) (.int .i64 3)).run Tryz.prog w = .ok (.int .i64 x3) w := by kernel_rfl
theorem idx4 (w : World) : (Instr.index 26 (.agg #[.int .i64 x0, .int .i64 x1, .int .i64 x2, .int .i64 x3, .int .i64 x4, .int .i64 x5, .int .i64 x6, .int .i64 x7]) (.int .i64 4)).run Tryz.prog w = .ok (.int .i64 x4) w := by kernel_rfl
theorem idx5 (w : World) : (Instr.index 26 (.agg #[.int .i64 x0, .int .i64 x1, .int .i64 x2, .int .i64 x3, .int .i64 x4, .int .i64 x5, .int .i64 x6, .int .i64 x7]) (.int .i64 5)).run Tryz.prog w = .ok (.int .i64 x5) w := by kernel_rfl
theorem idx6 (w : World) : (Instr.index 26 (.agg #[.int .i64 x0, .int .i64 x1, .int .i64 x2, .int .i64 x3, .int .i64 x4, .int .i64 x5, .int .i64 x6, .int .i64 x7]) (.int .i64 6)).run Tryz.prog w = .ok (.int .i64 x6) w := by kernel_rfl
theorem idx7 (w : World) : (Instr.index 26 (.agg #[.int .i64 x0, .int .i64 x1, .int .i64 x2, .int .i64 x3, .int .i64 x4, .int .i64 x5, .int .i64 x6, .int .i64 x7]) (.int .i64 7)).run Tryz.prog w = .ok (.int .i64 x7) w := by kernel_rfl

theorem eight {k : Nat} (h : k ≤ 8) : k = 0 ∨ k = 1 ∨ k = 2 ∨ k = 3 ∨ k = 4 ∨ k = 5 ∨ k = 6 ∨ k = 7 ∨ k = 8 := by omega

set_option maxRecDepth 100000 in
set_option maxHeartbeats 1000000 in
theorem right_any (w : World) : Calls Tryz.prog 34 #[.agg #[.int .i64 x0, .int .i64 x1, .int .i64 x2, .int .i64 x3, .int .i64 x4, .int .i64 x5, .int .i64 x6, .int .i64 x7]] w fun e w' => e = .returned (.bool (rightB [x0, x1, x2, x3, x4, x5, x6, x7])) ∧ w' = w.alloc (.cells #[.int .i64 x0, .int .i64 x1, .int .i64 x2, .int .i64 x3, .int .i64 x4, .int .i64 x5, .int .i64 x6, .int .i64 x7] 26) := by
  have i0 := idx0 x0 x1 x2 x3 x4 x5 x6 x7
  have i1 := idx1 x0 x1 x2 x3 x4 x5 x6 x7
  have i2 := idx2 x0 x1 x2 x3 x4 x5 x6 x7
  have i3 := idx3 x0 x1 x2 x3 x4 x5 x6 x7
  have i4 := idx4 x0 x1 x2 x3 x4 x5 x6 x7
  have i5 := idx5 x0 x1 x2 x3 x4 x5 x6 x7
  have i6 := idx6 x0 x1 x2 x3 x4 x5 x6 x7
  have i7 := idx7 x0 x1 x2 x3 x4 x5 x6 x7
  generalize hl : [x0, x1, x2, x3, x4, x5, x6, x7] = l
  have HL := hide hl
  clear hl
  go_enter Tryz.func34, Tryz.ntmps34
  go_wp2
  go_loop [6] (fun i => ∃ k : Nat, k ≤ 8 ∧ i = .int .i64 k ∧ OkTo l k) (fun i => 8 - (intOf i).toNat)
  case atStart => exact ⟨0, Nat.zero_le _, rfl, OkTo.zero _⟩
  case round =>
    obtain ⟨k, hk, rfl, hto⟩ := hrel
    have HO := hide hto
    clear hto
    rcases eight hk with rfl | rfl | rfl | rfl | rfl | rfl | rfl | rfl | rfl
    · go_wp2
      · go_ret
        exact ⟨ret_bool (rightB_false 0 x0 (by rw [← un HL]; rfl) (okB_hi (by omega))).symm, rfl⟩
      · exact ⟨⟨1, by omega, rfl, (un HO).step (by rw [← un HL]; rfl) (okB_yes (x := x0) (by omega) (by omega))⟩, by simp [intOf]⟩
      · go_ret
        exact ⟨ret_bool (rightB_false 0 x0 (by rw [← un HL]; rfl) (okB_lo (by omega))).symm, rfl⟩
    · go_wp2
      · go_ret
        exact ⟨ret_bool (rightB_false 1 x1 (by rw [← un HL]; rfl) (okB_hi (by omega))).symm, rfl⟩
      · exact ⟨⟨2, by omega, rfl, (un HO).step (by rw [← un HL]; rfl) (okB_yes (x := x1) (by omega) (by omega))⟩, by simp [intOf]⟩
      · go_ret
        exact ⟨ret_bool (rightB_false 1 x1 (by rw [← un HL]; rfl) (okB_lo (by omega))).symm, rfl⟩
    · go_wp2
      · go_ret
        exact ⟨ret_bool (rightB_false 2 x2 (by rw [← un HL]; rfl) (okB_hi (by omega))).symm, rfl⟩
      · exact ⟨⟨3, by omega, rfl, (un HO).step (by rw [← un HL]; rfl) (okB_yes (x := x2) (by omega) (by omega))⟩, by simp [intOf]⟩
      · go_ret
        exact ⟨ret_bool (rightB_false 2 x2 (by rw [← un HL]; rfl) (okB_lo (by omega))).symm, rfl⟩
    · go_wp2
      · go_ret
        exact ⟨ret_bool (rightB_false 3 x3 (by rw [← un HL]; rfl) (okB_hi (by omega))).symm, rfl⟩
      · exact ⟨⟨4, by omega, rfl, (un HO).step (by rw [← un HL]; rfl) (okB_yes (x := x3) (by omega) (by omega))⟩, by simp [intOf]⟩
      · go_ret
        exact ⟨ret_bool (rightB_false 3 x3 (by rw [← un HL]; rfl) (okB_lo (by omega))).symm, rfl⟩
    · go_wp2
      · go_ret
        exact ⟨ret_bool (rightB_false 4 x4 (by rw [← un HL]; rfl) (okB_hi (by omega))).symm, rfl⟩
      · exact ⟨⟨5, by omega, rfl, (un HO).step (by rw [← un HL]; rfl) (okB_yes (x := x4) (by omega) (by omega))⟩, by simp [intOf]⟩
      · go_ret
        exact ⟨ret_bool (rightB_false 4 x4 (by rw [← un HL]; rfl) (okB_lo (by omega))).symm, rfl⟩
    · go_wp2
      · go_ret
        exact ⟨ret_bool (rightB_false 5 x5 (by rw [← un HL]; rfl) (okB_hi (by omega))).symm, rfl⟩
      · exact ⟨⟨6, by omega, rfl, (un HO).step (by rw [← un HL]; rfl) (okB_yes (x := x5) (by omega) (by omega))⟩, by simp [intOf]⟩
      · go_ret
        exact ⟨ret_bool (rightB_false 5 x5 (by rw [← un HL]; rfl) (okB_lo (by omega))).symm, rfl⟩
    · go_wp2
      · go_ret
        exact ⟨ret_bool (rightB_false 6 x6 (by rw [← un HL]; rfl) (okB_hi (by omega))).symm, rfl⟩
      · exact ⟨⟨7, by omega, rfl, (un HO).step (by rw [← un HL]; rfl) (okB_yes (x := x6) (by omega) (by omega))⟩, by simp [intOf]⟩
      · go_ret
        exact ⟨ret_bool (rightB_false 6 x6 (by rw [← un HL]; rfl) (okB_lo (by omega))).symm, rfl⟩
    · go_wp2
      · go_ret
        exact ⟨ret_bool (rightB_false 7 x7 (by rw [← un HL]; rfl) (okB_hi (by omega))).symm, rfl⟩
      · exact ⟨⟨8, by omega, rfl, (un HO).step (by rw [← un HL]; rfl) (okB_yes (x := x7) (by omega) (by omega))⟩, by simp [intOf]⟩
      · go_ret
        exact ⟨ret_bool (rightB_false 7 x7 (by rw [← un HL]; rfl) (okB_lo (by omega))).symm, rfl⟩
    · go_wp2
      go_ret
      exact ⟨ret_bool ((un HO).all (by rw [← un HL]; exact Nat.le_refl 8)).symm, rfl⟩

set_option maxRecDepth 100000 in
set_option maxHeartbeats 400000 in
theorem told_any (w : World) : Calls Tryz.prog 35 #[.agg #[.int .i64 x0, .int .i64 x1, .int .i64 x2, .int .i64 x3, .int .i64 x4, .int .i64 x5, .int .i64 x6, .int .i64 x7]] w fun e w' => e = .returned (.tuple #[.agg #[.int .i64 (sel (rightB [x0, x1, x2, x3, x4, x5, x6, x7]) x0), .int .i64 (sel (rightB [x0, x1, x2, x3, x4, x5, x6, x7]) x1), .int .i64 (sel (rightB [x0, x1, x2, x3, x4, x5, x6, x7]) x2), .int .i64 (sel (rightB [x0, x1, x2, x3, x4, x5, x6, x7]) x3), .int .i64 (sel (rightB [x0, x1, x2, x3, x4, x5, x6, x7]) x4), .int .i64 (sel (rightB [x0, x1, x2, x3, x4, x5, x6, x7]) x5), .int .i64 (sel (rightB [x0, x1, x2, x3, x4, x5, x6, x7]) x6), .int .i64 (sel (rightB [x0, x1, x2, x3, x4, x5, x6, x7]) x7)], .int .i64 (errOf (rightB [x0, x1, x2, x3, x4, x5, x6, x7]) 51)]) ∧ w' = ((w.alloc (.cells #[.int .i64 x0, .int .i64 x1, .int .i64 x2, .int .i64 x3, .int .i64 x4, .int .i64 x5, .int .i64 x6, .int .i64 x7] 26)).alloc (.cells #[.int .i64 (sel (rightB [x0, x1, x2, x3, x4, x5, x6, x7]) x0), .int .i64 (sel (rightB [x0, x1, x2, x3, x4, x5, x6, x7]) x1), .int .i64 (sel (rightB [x0, x1, x2, x3, x4, x5, x6, x7]) x2), .int .i64 (sel (rightB [x0, x1, x2, x3, x4, x5, x6, x7]) x3), .int .i64 (sel (rightB [x0, x1, x2, x3, x4, x5, x6, x7]) x4), .int .i64 (sel (rightB [x0, x1, x2, x3, x4, x5, x6, x7]) x5), .int .i64 (sel (rightB [x0, x1, x2, x3, x4, x5, x6, x7]) x6), .int .i64 (sel (rightB [x0, x1, x2, x3, x4, x5, x6, x7]) x7)] 26)).alloc (.cells #[.int .i64 x0, .int .i64 x1, .int .i64 x2, .int .i64 x3, .int .i64 x4, .int .i64 x5, .int .i64 x6, .int .i64 x7] 26) := by
  have HC := hide (right_any x0 x1 x2 x3 x4 x5 x6 x7)
  generalize rightB [x0, x1, x2, x3, x4, x5, x6, x7] = r at *
  cases r with
  | true =>
    simp only [sel_true, errOf_true]
    go_enter Tryz.func35, Tryz.ntmps35
    go_wp2_with (go_at_call 34; refine (un HC _).mono ?_; rintro e w' ⟨rfl, rfl⟩)
    exact bodyPost_ret (v := .tuple #[.agg #[.int .i64 x0, .int .i64 x1, .int .i64 x2, .int .i64 x3, .int .i64 x4, .int .i64 x5, .int .i64 x6, .int .i64 x7], .int .i64 0]) (by simp [results, Tryz.results35, go_sem]) rfl ⟨rfl, rfl⟩
  | false =>
    simp only [sel_false, errOf_false]
    go_enter Tryz.func35, Tryz.ntmps35
    go_wp2_with (go_at_call 34; refine (un HC _).mono ?_; rintro e w' ⟨rfl, rfl⟩)
    exact bodyPost_ret (v := .tuple #[.agg #[.int .i64 0, .int .i64 0, .int .i64 0, .int .i64 0, .int .i64 0, .int .i64 0, .int .i64 0, .int .i64 0], .int .i64 51]) (by simp [results, Tryz.results35, go_sem]) rfl ⟨rfl, rfl⟩
end
end Go.Proofs.YthcbhnggphdflaaGreatDoor.Dm

namespace Go.Proofs.YthcbhnggphdflaaGreatDoor.Dm
open Go.RowKit

section
variable (a0 a1 a2 a3 a4 a5 a6 a7 b0 b1 b2 b3 b4 b5 b6 b7 : Int)
def quoOk (ra rb : Bool) (l : List Int) : Bool := ra && rb && rightB l
def quoErr (ra rb : Bool) (l : List Int) : Int := if (ra && rb) = true then errOf (rightB l) 51 else 1

set_option maxRecDepth 100000 in
set_option maxHeartbeats 2000000 in
theorem quo_any (w : World) : Calls Tryz.prog 37 #[.agg #[.int .i64 a0, .int .i64 a1, .int .i64 a2, .int .i64 a3, .int .i64 a4, .int .i64 a5, .int .i64 a6, .int .i64 a7], .agg #[.int .i64 b0, .int .i64 b1, .int .i64 b2, .int .i64 b3, .int .i64 b4, .int .i64 b5, .int .i64 b6, .int .i64 b7]] w fun e w' => e = .returned (.tuple #[.agg #[.int .i64 (sel (quoOk (rightB [a0, a1, a2, a3, a4, a5, a6, a7]) (rightB [b0, b1, b2, b3, b4, b5, b6, b7]) [wrap64 (a0 - b0), wrap64 (a1 - b1), wrap64 (a2 - b2), wrap64 (a3 - b3), wrap64 (a4 - b4), wrap64 (a5 - b5), wrap64 (a6 - b6), wrap64 (a7 - b7)]) (wrap64 (a0 - b0))), .int .i64 (sel (quoOk (rightB [a0, a1, a2, a3, a4, a5, a6, a7]) (rightB [b0, b1, b2, b3, b4, b5, b6, b7]) [wrap64 (a0 - b0), wrap64 (a1 - b1), wrap64 (a2 - b2), wrap64 (a3 - b3), wrap64 (a4 - b4), wrap64 (a5 - b5), wrap64 (a6 - b6), wrap64 (a7 - b7)]) (wrap64 (a1 - b1))), .int .i64 (sel (quoOk (rightB [a0, a1, a2, a3, a4, a5, a6, a7]) (rightB [b0, b1, b2, b3, b4, b5, b6, b7]) [wrap64 (a0 - b0), wrap64 (a1 - b1), wrap64 (a2 - b2), wrap64 (a3 - b3), wrap64 (a4 - b4), wrap64 (a5 - b5), wrap64 (a6 - b6), wrap64 (a7 - b7)]) (wrap64 (a2 - b2))), .int .i64 (sel (quoOk (rightB [a0, a1, a2, a3, a4, a5, a6, a7]) (rightB [b0, b1, b2, b3, b4, b5, b6, b7]) [wrap64 (a0 - b0), wrap64 (a1 - b1), wrap64 (a2 - b2), wrap64 (a3 - b3), wrap64 (a4 - b4), wrap64 (a5 - b5), wrap64 (a6 - b6), wrap64 (a7 - b7)]) (wrap64 (a3 - b3))), .int .i64 (sel (quoOk (rightB [a0, a1, a2, a3, a4, a5, a6, a7]) (rightB [b0, b1, b2, b3, b4, b5, b6, b7]) [wrap64 (a0 - b0), wrap64 (a1 - b1), wrap64 (a2 - b2), wrap64 (a3 - b3), wrap64 (a4 - b4), wrap64 (a5 - b5), wrap64 (a6 - b6), wrap64 (a7 - b7)]) (wrap64 (a4 - b4))), .int .i64 (sel (quoOk (rightB [a0, a1, a2, a3, a4, a5, a6, a7]) (rightB [b0, b1, b2, b3, b4, b5, b6, b7]) [wrap64 (a0 - b0), wrap64 (a1 - b1), wrap64 (a2 - b2), wrap64 (a3 - b3), wrap64 (a4 - b4), wrap64 (a5 - b5), wrap64 (a6 - b6), wrap64 (a7 - b7)]) (wrap64 (a5 - b5))), .int .i64 (sel (quoOk (rightB [a0, a1, a2, a3, a4, a5, a6, a7]) (rightB [b0, b1, b2, b3, b4, b5, b6, b7]) [wrap64 (a0 - b0), wrap64 (a1 - b1), wrap64 (a2 - b2), wrap64 (a3 - b3), wrap64 (a4 - b4), wrap64 (a5 - b5), wrap64 (a6 - b6), wrap64 (a7 - b7)]) (wrap64 (a6 - b6))), .int .i64 (sel (quoOk (rightB [a0, a1, a2, a3, a4, a5, a6, a7]) (rightB [b0, b1, b2, b3, b4, b5, b6, b7]) [wrap64 (a0 - b0), wrap64 (a1 - b1), wrap64 (a2 - b2), wrap64 (a3 - b3), wrap64 (a4 - b4), wrap64 (a5 - b5), wrap64 (a6 - b6), wrap64 (a7 - b7)]) (wrap64 (a7 - b7)))], .int .i64 (quoErr (rightB [a0, a1, a2, a3, a4, a5, a6, a7]) (rightB [b0, b1, b2, b3, b4, b5, b6, b7]) [wrap64 (a0 - b0), wrap64 (a1 - b1), wrap64 (a2 - b2), wrap64 (a3 - b3), wrap64 (a4 - b4), wrap64 (a5 - b5), wrap64 (a6 - b6), wrap64 (a7 - b7)])]) ∧ Below w.heap.size w w' := by
  have HA := hide (right_any a0 a1 a2 a3 a4 a5 a6 a7)
  have HB := hide (right_any b0 b1 b2 b3 b4 b5 b6 b7)
  have HT := hide (told_any (wrap64 (a0 - b0)) (wrap64 (a1 - b1)) (wrap64 (a2 - b2)) (wrap64 (a3 - b3)) (wrap64 (a4 - b4)) (wrap64 (a5 - b5)) (wrap64 (a6 - b6)) (wrap64 (a7 - b7)))
  unfold quoOk quoErr
  generalize rightB [a0, a1, a2, a3, a4, a5, a6, a7] = ra at *
  generalize rightB [b0, b1, b2, b3, b4, b5, b6, b7] = rb at *
  generalize rightB [wrap64 (a0 - b0), wrap64 (a1 - b1), wrap64 (a2 - b2), wrap64 (a3 - b3), wrap64 (a4 - b4), wrap64 (a5 - b5), wrap64 (a6 - b6), wrap64 (a7 - b7)] = rq at *
  cases ra with
  | false =>
    simp only [Bool.false_and, sel_false, Bool.false_eq_true, if_false]
    go_enter Tryz.func37, Tryz.ntmps37
    go_wp2_with (first
      | (go_at_call_of 34 (Value.agg #[Value.int IntKind.i64 a0, Value.int IntKind.i64 a1, Value.int IntKind.i64 a2, Value.int IntKind.i64 a3, Value.int IntKind.i64 a4, Value.int IntKind.i64 a5, Value.int IntKind.i64 a6, Value.int IntKind.i64 a7]); refine (un HA _).mono ?_; rintro e w' ⟨rfl, rfl⟩))
    exact bodyPost_ret (v := .tuple #[.agg #[.int .i64 0, .int .i64 0, .int .i64 0, .int .i64 0, .int .i64 0, .int .i64 0, .int .i64 0, .int .i64 0], .int .i64 1]) (by simp [results, Tryz.results37, go_sem]) rfl ⟨rfl, ((((Below.refl _ _).alloc (Nat.le_refl _) _).alloc (by simp) _).alloc (by simp; omega) _).alloc (by simp; omega) _⟩
  | true =>
    cases rb with
    | false =>
      simp only [Bool.and_false, Bool.false_and, sel_false, Bool.false_eq_true, if_false]
      go_enter Tryz.func37, Tryz.ntmps37
      go_wp2_with (first
        | (go_at_call_of 34 (Value.agg #[Value.int IntKind.i64 a0, Value.int IntKind.i64 a1, Value.int IntKind.i64 a2, Value.int IntKind.i64 a3, Value.int IntKind.i64 a4, Value.int IntKind.i64 a5, Value.int IntKind.i64 a6, Value.int IntKind.i64 a7]); refine (un HA _).mono ?_; rintro e w' ⟨rfl, rfl⟩)
        | (go_at_call_of 34 (Value.agg #[Value.int IntKind.i64 b0, Value.int IntKind.i64 b1, Value.int IntKind.i64 b2, Value.int IntKind.i64 b3, Value.int IntKind.i64 b4, Value.int IntKind.i64 b5, Value.int IntKind.i64 b6, Value.int IntKind.i64 b7]); refine (un HB _).mono ?_; rintro e w' ⟨rfl, rfl⟩))
      exact bodyPost_ret (v := .tuple #[.agg #[.int .i64 0, .int .i64 0, .int .i64 0, .int .i64 0, .int .i64 0, .int .i64 0, .int .i64 0, .int .i64 0], .int .i64 1]) (by simp [results, Tryz.results37, go_sem]) rfl ⟨rfl, (((((Below.refl _ _).alloc (Nat.le_refl _) _).alloc (by simp) _).alloc (by simp; omega) _).alloc (by simp; omega) _).alloc (by simp; omega) _⟩
    | true =>
      simp only [Bool.and_self, Bool.true_and, if_true]
      have i0 := idx0 b0 b1 b2 b3 b4 b5 b6 b7
      have i1 := idx1 b0 b1 b2 b3 b4 b5 b6 b7
      have i2 := idx2 b0 b1 b2 b3 b4 b5 b6 b7
      have i3 := idx3 b0 b1 b2 b3 b4 b5 b6 b7
      have i4 := idx4 b0 b1 b2 b3 b4 b5 b6 b7
      have i5 := idx5 b0 b1 b2 b3 b4 b5 b6 b7
      have i6 := idx6 b0 b1 b2 b3 b4 b5 b6 b7
      have i7 := idx7 b0 b1 b2 b3 b4 b5 b6 b7
      go_enter Tryz.func37, Tryz.ntmps37
      go_wp2_with (first
        | (go_at_call_of 34 (Value.agg #[Value.int IntKind.i64 a0, Value.int IntKind.i64 a1, Value.int IntKind.i64 a2, Value.int IntKind.i64 a3, Value.int IntKind.i64 a4, Value.int IntKind.i64 a5, Value.int IntKind.i64 a6, Value.int IntKind.i64 a7]); refine (un HA _).mono ?_; rintro e w' ⟨rfl, rfl⟩)
        | (go_at_call_of 34 (Value.agg #[Value.int IntKind.i64 b0, Value.int IntKind.i64 b1, Value.int IntKind.i64 b2, Value.int IntKind.i64 b3, Value.int IntKind.i64 b4, Value.int IntKind.i64 b5, Value.int IntKind.i64 b6, Value.int IntKind.i64 b7]); refine (un HB _).mono ?_; rintro e w' ⟨rfl, rfl⟩))
      refine wp_loop_rounds 9 ?_
      repeat any_goals (rw [rounds_succ]; go_wp2_with (go_at_call 35; refine (un HT _).mono ?_; rintro e w' ⟨rfl, rfl⟩))
      exact bodyPost_ret (v := .tuple #[.agg #[.int .i64 (sel rq (wrap64 (a0 - b0))), .int .i64 (sel rq (wrap64 (a1 - b1))), .int .i64 (sel rq (wrap64 (a2 - b2))), .int .i64 (sel rq (wrap64 (a3 - b3))), .int .i64 (sel rq (wrap64 (a4 - b4))), .int .i64 (sel rq (wrap64 (a5 - b5))), .int .i64 (sel rq (wrap64 (a6 - b6))), .int .i64 (sel rq (wrap64 (a7 - b7)))], .int .i64 (errOf rq 51)]) (by simp [results, Tryz.results37, go_sem]) rfl ⟨rfl, by repeat (first | exact Below.refl _ _ | (refine Below.alloc ?_ (by simp <;> omega) _))⟩
end
end Go.Proofs.YthcbhnggphdflaaGreatDoor.Dm

namespace Go.Proofs.YthcbhnggphdflaaGreatDoor.Dm
open Go.RowKit

/-- Exponents as cells. -/
def cells8 (l : List Int) : Array Value := (l.map fun x => Value.int .i64 x).toArray
/-- Block g holds just these exponents. -/
def Own8 (w : World) (g : Nat) (l : List Int) : Prop := w.heap[g]? = some (.cells (cells8 l) 26 (0, 0))
theorem Own8.lt {w : World} {g : Nat} {l : List Int} (h : Own8 w g l) : g < w.heap.size := (Array.getElem?_eq_some_iff.1 h).1
theorem Own8.cell {w : World} {g : Nat} {l : List Int} (h : Own8 w g l) (i : Nat) (x : Int) (hi : l[i]? = some x) : w.cell? ⟨g, i, none⟩ = some (.int .i64 x) := by
  unfold Own8 cells8 at h
  simp [World.cell?, h, hi]
theorem Own8.frozen {w : World} {g : Nat} {l : List Int} (h : Own8 w g l) (i : Nat) : w.frozen? ⟨g, i, none⟩ = false := by
  unfold Own8 at h
  simp [World.frozen?, h]
theorem Own8.set {w : World} {g : Nat} {l : List Int} (h : Own8 w g l) (i : Nat) (x : Int) : Own8 (w.setCell ⟨g, i, none⟩ (.int .i64 x)) g (l.set i x) := by
  unfold Own8 cells8 at h ⊢
  simp only [World.setCell, Array.getElem?_modify, h, Option.map_some]
  simp [List.map_set]
theorem Own8.other {w : World} {g : Nat} {l : List Int} (h : Own8 w g l) {a : Addr} (ha : g ≠ a.block) (x : Value) : Own8 (w.setCell a x) g l :=
  (Below.heap_setCell w a x g ha).trans h
theorem Own8.alloc {w : World} {g : Nat} {l : List Int} (h : Own8 w g l) (o : Obj) : Own8 (w.alloc o) g l := (Below.heap_alloc w o g h.lt).trans h
theorem Own8.later {w w' : World} {g B : Nat} {l : List Int} (h : Own8 w g l) (hb : Below B w w') (hg : g < B) : Own8 w' g l := (hb.block g hg).trans h
theorem Own8.setRow {w : World} {g : Nat} {l : List Int} (h : Own8 w g l) (m : List Int) : Own8 (w.setRow g (cells8 m)) g m := setRow_heap w g _ _ 26 (0, 0) h
theorem size_alloc (w : World) (o : Obj) : (w.alloc o).heap.size = w.heap.size + 1 := by simp
theorem Own8.new (w : World) (l : List Int) : Own8 (w.alloc (.cells (cells8 l) 26)) w.heap.size l := heap_alloc_new w _
theorem info24 : (Tryz.prog.info? 26).map (·.size) = some 8 := by kernel_rfl
theorem ones8 (l : List Int) : (cells8 l).all (·.oneCell') = true := by
  unfold cells8
  rw [Array.all_eq_true_iff_forall_mem]
  intro v hv
  simp at hv
  obtain ⟨x, _, rfl⟩ := hv
  rfl
theorem size8 (l : List Int) : (cells8 l).size = l.length := by simp [cells8]
/-- Two results: a dimension's box, and a slot. -/
theorem res2 {fn : Func} {p u : Tmp} (h : fn.results = #[.cell p 26, .tmp u]) (tmps : Array Value) (w : World) (g : Nat) (l : List Int) (hl : l.length = 8)
    (hp : tmps.getD p undef = .pointer (some ⟨g, 0, none⟩)) (ho : Own8 w g l) : (results fn tmps).run Tryz.prog w = .ok (.tuple #[.agg (cells8 l), tmps.getD u undef]) w := by
  rw [results_cell_tmp h, hp]
  simp only [asAddr, Sem.run_pure, Result.andThen_ok]
  rw [run_loadVar_row w g 26 26 (cells8 l) (0, 0) _ ho Tryz.underlying26 rfl (by rw [info24, size8, hl])]
  rfl
/-- A dimension is stored into its box. -/
theorem store8 {ops : Array Oper} {rest : List Oper} {o : Oper} {a : Act} {w : World} {Q : Exit → Act → World → Prop} (hgd : o.guard = none) (x y : Operand) (ho : o.op = .store 26 x y)
    (g : Nat) (l m : List Int) (hl : l.length = 8) (hm : m.length = 8) (hx : a.eval x = .pointer (some ⟨g, 0, none⟩)) (hy : a.eval y = .agg (cells8 m)) (hg : Own8 w g l)
    (h : wpList Tryz.prog ops Q rest (a.put o.dst undef) (w.setRow g (cells8 m))) : wpList Tryz.prog ops Q (o :: rest) a w :=
  wpList_store_row hgd 26 x y ho g (cells8 m) hx hy 26 _ hg (by rw [info24, size8, hm]) (by rw [size8, size8, hl, hm]) (ones8 m) h

/-- A slice's memory holds n dimensions. -/
def Dims (w : World) (b o n : Nat) (X : Nat → Nat → Int) : Prop := b < w.heap.size ∧ ∀ i, i < n → ∀ j, j < 8 → w.cell? ⟨b, o + i * 8 + j, none⟩ = some (.int .i64 (X i j))
theorem Dims.later {w w' : World} {b o n : Nat} {X : Nat → Nat → Int} (h : Dims w b o n X) (hb : Below w.heap.size w w') : Dims w' b o n X := by
  have := hb.size
  exact ⟨by have := h.1; omega, fun i hi j hj => (hb.cell (p := ⟨b, o + i * 8 + j, none⟩) h.1).trans (h.2 i hi j hj)⟩
/-- The exponents of dimension i. -/
def dimAt (X : Nat → Nat → Int) (i : Nat) : List Int := [X i 0, X i 1, X i 2, X i 3, X i 4, X i 5, X i 6, X i 7]
/-- The first k are right. -/
def allB (X : Nat → Nat → Int) : Nat → Bool
  | 0 => true
  | k + 1 => allB X k && rightB (dimAt X k)
/-- The sum of the first k at place j. -/
def sumD (X : Nat → Nat → Int) : Nat → Nat → Int
  | 0, _ => 0
  | k + 1, j => wrap64 (sumD X k j + X k j)
def sumL (X : Nat → Nat → Int) (k : Nat) : List Int := [sumD X k 0, sumD X k 1, sumD X k 2, sumD X k 3, sumD X k 4, sumD X k 5, sumD X k 6, sumD X k 7]
theorem allB_false (X : Nat → Nat → Int) (k n : Nat) (h : k < n) (hf : rightB (dimAt X k) = false) : allB X n = false := by
  induction n with
  | zero => omega
  | succ n ih =>
    unfold allB
    by_cases e : k = n
    · subst e; rw [hf, Bool.and_false]
    · rw [ih (by omega), Bool.false_and]
def mulErr (X : Nat → Nat → Int) (n : Nat) : Int := if allB X n = true then errOf (rightB (sumL X n)) 51 else 1
/-- The sums of k + 1 at the first j places, those of k behind. -/
def mixL (X : Nat → Nat → Int) (k j : Nat) : List Int := (sumL X (k + 1)).take j ++ (sumL X k).drop j
theorem mixL_get (X : Nat → Nat → Int) (k j : Nat) (h : j < 8) : (mixL X k j)[j]? = some (sumD X k j) := by
  rcases eight (Nat.le_of_lt h) with rfl | rfl | rfl | rfl | rfl | rfl | rfl | rfl | rfl <;> first | rfl | omega
theorem mixL_set (X : Nat → Nat → Int) (k j : Nat) (h : j < 8) : (mixL X k j).set j (wrap64 (sumD X k j + X k j)) = mixL X k (j + 1) := by
  rcases eight (Nat.le_of_lt h) with rfl | rfl | rfl | rfl | rfl | rfl | rfl | rfl | rfl <;> first | rfl | omega
theorem dimAt_get (X : Nat → Nat → Int) (k j : Nat) (h : j < 8) : (dimAt X k)[j]? = some (X k j) := by
  rcases eight (Nat.le_of_lt h) with rfl | rfl | rfl | rfl | rfl | rfl | rfl | rfl | rfl <;> first | rfl | omega
theorem idxN (x0 x1 x2 x3 x4 x5 x6 x7 : Int) (j : Nat) (y : Int) (h : [x0, x1, x2, x3, x4, x5, x6, x7][j]? = some y) (w : World) : (Instr.index 26 (.agg #[.int .i64 x0, .int .i64 x1, .int .i64 x2, .int .i64 x3, .int .i64 x4, .int .i64 x5, .int .i64 x6, .int .i64 x7]) (.int .i64 j)).run Tryz.prog w = .ok (.int .i64 y) w := by
  have hj : j < 8 := (List.getElem?_eq_some_iff.1 h).1
  rcases eight (Nat.le_of_lt hj) with rfl | rfl | rfl | rfl | rfl | rfl | rfl | rfl | rfl
  · cases h; exact idx0 x0 x1 x2 x3 x4 x5 x6 x7 w
  · cases h; exact idx1 x0 x1 x2 x3 x4 x5 x6 x7 w
  · cases h; exact idx2 x0 x1 x2 x3 x4 x5 x6 x7 w
  · cases h; exact idx3 x0 x1 x2 x3 x4 x5 x6 x7 w
  · cases h; exact idx4 x0 x1 x2 x3 x4 x5 x6 x7 w
  · cases h; exact idx5 x0 x1 x2 x3 x4 x5 x6 x7 w
  · cases h; exact idx6 x0 x1 x2 x3 x4 x5 x6 x7 w
  · cases h; exact idx7 x0 x1 x2 x3 x4 x5 x6 x7 w
  · omega
end Go.Proofs.YthcbhnggphdflaaGreatDoor.Dm
