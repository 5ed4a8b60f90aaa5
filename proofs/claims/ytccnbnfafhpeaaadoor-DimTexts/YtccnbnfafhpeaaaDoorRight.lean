/- dim.Right and told: is each exponent within its bounds? -/
import Derived.Test.YtccnbnfafhpeaaaDoorProg
import Derived.WalkKit
import Derived.WalkSpells
import Derived.WalkLawsBesides
namespace Go.Proofs.YtccnbnfafhpeaaaDoor
open Go.RowKit

theorem hide {p : Prop} (h : p) : Hid p := h
theorem unhide {p : Prop} (h : Hid p) : p := h

/-- One exponent is within its bounds. -/
def okB (x : Int) : Bool := !(decide (x < -99) || decide (99 < x))
/-- All are. -/
def rightB (l : List Int) : Bool := l.all okB

theorem okB_lo {x : Int} (h : x < -99) : okB x = false := by simp [okB, h]
theorem okB_hi {x : Int} (h : x < -99 ∨ 99 < x) : okB x = false := by rcases h with h | h <;> simp [okB, h]
theorem okB_yes {x : Int} (h1 : -99 ≤ x) (h2 : x ≤ 99) : okB x = true := by simp [okB]; omega
theorem okB_out {x : Int} (h : okB x = true) : -99 ≤ x ∧ x ≤ 99 := by simp [okB] at h; omega

theorem rightB_false {l : List Int} (k : Nat) (x : Int) (hk : l[k]? = some x) (h : okB x = false) : rightB l = false := by
  unfold rightB
  rw [List.all_eq_false]
  exact ⟨x, List.mem_of_getElem? hk, by simp [h]⟩
theorem rightB_true {l : List Int} (h : ∀ (j : Nat) (x : Int), l[j]? = some x → okB x = true) : rightB l = true := by
  unfold rightB
  rw [List.all_eq_true]
  intro x hx
  obtain ⟨j, hj⟩ := List.getElem?_of_mem hx
  exact h j x hj
theorem rightB_get {l : List Int} (h : rightB l = true) (j : Nat) (x : Int) (hj : l[j]? = some x) : -99 ≤ x ∧ x ≤ 99 := by
  unfold rightB at h
  rw [List.all_eq_true] at h
  exact okB_out (h x (List.mem_of_getElem? hj))

/-- What holds of the first k. -/
def OkTo (l : List Int) (k : Nat) : Prop := ∀ j, j < k → ∀ x, l[j]? = some x → okB x = true
theorem OkTo.zero (l : List Int) : OkTo l 0 := fun j h => absurd h (Nat.not_lt_zero j)
theorem OkTo.step {l : List Int} {k : Nat} (h : OkTo l k) {x : Int} (hk : l[k]? = some x) (hx : okB x = true) : OkTo l (k + 1) := by
  intro j hj y hy
  by_cases e : j = k
  · subst e; rw [hk] at hy; cases hy; exact hx
  · exact h j (by omega) y hy
theorem OkTo.all {l : List Int} {k : Nat} (h : OkTo l k) (hl : l.length ≤ k) : rightB l = true :=
  rightB_true fun j x hj => h j (by have := (List.getElem?_eq_some_iff.1 hj).1; omega) x hj
theorem ret_bool {a b : Bool} (h : a = b) : Ending.returned (.bool a) = .returned (.bool b) := by rw [h]

theorem bcell {W w1 : World} (hb : Below W.heap.size W w1) : (∀ b o, b < W.heap.size → w1.cell? ⟨b, o, none⟩ = W.cell? ⟨b, o, none⟩) ∧ (∀ b o, b < W.heap.size → w1.frozen? ⟨b, o, none⟩ = W.frozen? ⟨b, o, none⟩) :=
  ⟨fun b o h => hb.cell (p := ⟨b, o, none⟩) h, fun b o h => hb.frozen (p := ⟨b, o, none⟩) h⟩

/-- What is told: x, or 0. -/
def sel (b : Bool) (x : Int) : Int := if b = true then x else 0
def errOf (b : Bool) (n : Int) : Int := if b = true then 0 else n
theorem sel_true (x : Int) : sel true x = x := rfl
theorem sel_false (x : Int) : sel false x = 0 := rfl
theorem errOf_true (x : Int) : errOf true x = 0 := rfl
theorem errOf_false (x : Int) : errOf false x = x := rfl

section
variable (x0 x1 x2 x3 x4 x5 x6 x7 : Int)
theorem idx0 (w : World) : (Instr.index 24 (.agg #[.int .i64 x0, .int .i64 x1, .int .i64 x2, .int .i64 x3, .int .i64 x4, .int .i64 x5, .int .i64 x6, .int .i64 x7]) (.int .i64 0)).run Tryd.prog w = .ok (.int .i64 x0) w := by kernel_rfl
theorem idx1 (w : World) : (Instr.index 24 (.agg #[.int .i64 x0, .int .i64 x1, .int .i64 x2, .int .i64 x3, .int .i64 x4, .int .i64 x5, .int .i64 x6, .int .i64 x7]) (.int .i64 1)).run Tryd.prog w = .ok (.int .i64 x1) w := by kernel_rfl
theorem idx2 (w : World) : (Instr.index 24 (.agg #[.int .i64 x0, .int .i64 x1, .int .i64 x2, .int .i64 x3, .int .i64 x4, .int .i64 x5, .int .i64 x6, .int .i64 x7]) (.int .i64 2)).run Tryd.prog w = .ok (.int .i64 x2) w := by kernel_rfl
theorem idx3 (w : World) : (Instr.index 24 (.agg #[.int .i64 x0, .int .i64 x1, .int .i64 x2, .int .i64 x3, .int .i64 x4, .int .i64 x5, .int .i64 x6, .int .i64 x7]) (.int .i64 3)).run Tryd.prog w = .ok (.int .i64 x3) w := by kernel_rfl
theorem idx4 (w : World) : (Instr.index 24 (.agg #[.int .i64 x0, .int .i64 x1, .int .i64 x2, .int .i64 x3, .int .i64 x4, .int .i64 x5, .int .i64 x6, .int .i64 x7]) (.int .i64 4)).run Tryd.prog w = .ok (.int .i64 x4) w := by kernel_rfl
theorem idx5 (w : World) : (Instr.index 24 (.agg #[.int .i64 x0, .int .i64 x1, .int .i64 x2, .int .i64 x3, .int .i64 x4, .int .i64 x5, .int .i64 x6, .int .i64 x7]) (.int .i64 5)).run Tryd.prog w = .ok (.int .i64 x5) w := by kernel_rfl
theorem idx6 (w : World) : (Instr.index 24 (.agg #[.int .i64 x0, .int .i64 x1, .int .i64 x2, .int .i64 x3, .int .i64 x4, .int .i64 x5, .int .i64 x6, .int .i64 x7]) (.int .i64 6)).run Tryd.prog w = .ok (.int .i64 x6) w := by kernel_rfl
theorem idx7 (w : World) : (Instr.index 24 (.agg #[.int .i64 x0, .int .i64 x1, .int .i64 x2, .int .i64 x3, .int .i64 x4, .int .i64 x5, .int .i64 x6, .int .i64 x7]) (.int .i64 7)).run Tryd.prog w = .ok (.int .i64 x7) w := by kernel_rfl

theorem eight {k : Nat} (h : k ≤ 8) : k = 0 ∨ k = 1 ∨ k = 2 ∨ k = 3 ∨ k = 4 ∨ k = 5 ∨ k = 6 ∨ k = 7 ∨ k = 8 := by omega

set_option maxRecDepth 100000 in
set_option maxHeartbeats 1000000 in
theorem right_any (w : World) : Calls Tryd.prog 13 #[.agg #[.int .i64 x0, .int .i64 x1, .int .i64 x2, .int .i64 x3, .int .i64 x4, .int .i64 x5, .int .i64 x6, .int .i64 x7]] w fun e w' => e = .returned (.bool (rightB [x0, x1, x2, x3, x4, x5, x6, x7])) ∧ w' = w.alloc (.cells #[.int .i64 x0, .int .i64 x1, .int .i64 x2, .int .i64 x3, .int .i64 x4, .int .i64 x5, .int .i64 x6, .int .i64 x7] 24) := by
  have i0 := idx0 x0 x1 x2 x3 x4 x5 x6 x7
  have i1 := idx1 x0 x1 x2 x3 x4 x5 x6 x7
  have i2 := idx2 x0 x1 x2 x3 x4 x5 x6 x7
  have i3 := idx3 x0 x1 x2 x3 x4 x5 x6 x7
  have i4 := idx4 x0 x1 x2 x3 x4 x5 x6 x7
  have i5 := idx5 x0 x1 x2 x3 x4 x5 x6 x7
  have i6 := idx6 x0 x1 x2 x3 x4 x5 x6 x7
  have i7 := idx7 x0 x1 x2 x3 x4 x5 x6 x7
  generalize hl : [x0, x1, x2, x3, x4, x5, x6, x7] = l
  have HL := hide hl
  clear hl
  go_enter Tryd.func13, Tryd.ntmps13
  go_wp2
  go_loop [6] (fun i => ∃ k : Nat, k ≤ 8 ∧ i = .int .i64 k ∧ OkTo l k) (fun i => 8 - (intOf i).toNat)
  case atStart => exact ⟨0, Nat.zero_le _, rfl, OkTo.zero _⟩
  case round =>
    obtain ⟨k, hk, rfl, hto⟩ := hrel
    have HO := hide hto
    clear hto
    rcases eight hk with rfl | rfl | rfl | rfl | rfl | rfl | rfl | rfl | rfl
    · go_wp2
      · go_ret
        exact ⟨ret_bool (rightB_false 0 x0 (by rw [← unhide HL]; rfl) (okB_hi (by omega))).symm, rfl⟩
      · exact ⟨⟨1, by omega, rfl, (unhide HO).step (by rw [← unhide HL]; rfl) (okB_yes (x := x0) (by omega) (by omega))⟩, by simp [intOf]⟩
      · go_ret
        exact ⟨ret_bool (rightB_false 0 x0 (by rw [← unhide HL]; rfl) (okB_lo (by omega))).symm, rfl⟩
    · go_wp2
      · go_ret
        exact ⟨ret_bool (rightB_false 1 x1 (by rw [← unhide HL]; rfl) (okB_hi (by omega))).symm, rfl⟩
      · exact ⟨⟨2, by omega, rfl, (unhide HO).step (by rw [← unhide HL]; rfl) (okB_yes (x := x1) (by omega) (by omega))⟩, by simp [intOf]⟩
      · go_ret
        exact ⟨ret_bool (rightB_false 1 x1 (by rw [← unhide HL]; rfl) (okB_lo (by omega))).symm, rfl⟩
    · go_wp2
      · go_ret
        exact ⟨ret_bool (rightB_false 2 x2 (by rw [← unhide HL]; rfl) (okB_hi (by omega))).symm, rfl⟩
      · exact ⟨⟨3, by omega, rfl, (unhide HO).step (by rw [← unhide HL]; rfl) (okB_yes (x := x2) (by omega) (by omega))⟩, by simp [intOf]⟩
      · go_ret
        exact ⟨ret_bool (rightB_false 2 x2 (by rw [← unhide HL]; rfl) (okB_lo (by omega))).symm, rfl⟩
    · go_wp2
      · go_ret
        exact ⟨ret_bool (rightB_false 3 x3 (by rw [← unhide HL]; rfl) (okB_hi (by omega))).symm, rfl⟩
      · exact ⟨⟨4, by omega, rfl, (unhide HO).step (by rw [← unhide HL]; rfl) (okB_yes (x := x3) (by omega) (by omega))⟩, by simp [intOf]⟩
      · go_ret
        exact ⟨ret_bool (rightB_false 3 x3 (by rw [← unhide HL]; rfl) (okB_lo (by omega))).symm, rfl⟩
    · go_wp2
      · go_ret
        exact ⟨ret_bool (rightB_false 4 x4 (by rw [← unhide HL]; rfl) (okB_hi (by omega))).symm, rfl⟩
      · exact ⟨⟨5, by omega, rfl, (unhide HO).step (by rw [← unhide HL]; rfl) (okB_yes (x := x4) (by omega) (by omega))⟩, by simp [intOf]⟩
      · go_ret
        exact ⟨ret_bool (rightB_false 4 x4 (by rw [← unhide HL]; rfl) (okB_lo (by omega))).symm, rfl⟩
    · go_wp2
      · go_ret
        exact ⟨ret_bool (rightB_false 5 x5 (by rw [← unhide HL]; rfl) (okB_hi (by omega))).symm, rfl⟩
      · exact ⟨⟨6, by omega, rfl, (unhide HO).step (by rw [← unhide HL]; rfl) (okB_yes (x := x5) (by omega) (by omega))⟩, by simp [intOf]⟩
      · go_ret
        exact ⟨ret_bool (rightB_false 5 x5 (by rw [← unhide HL]; rfl) (okB_lo (by omega))).symm, rfl⟩
    · go_wp2
      · go_ret
        exact ⟨ret_bool (rightB_false 6 x6 (by rw [← unhide HL]; rfl) (okB_hi (by omega))).symm, rfl⟩
      · exact ⟨⟨7, by omega, rfl, (unhide HO).step (by rw [← unhide HL]; rfl) (okB_yes (x := x6) (by omega) (by omega))⟩, by simp [intOf]⟩
      · go_ret
        exact ⟨ret_bool (rightB_false 6 x6 (by rw [← unhide HL]; rfl) (okB_lo (by omega))).symm, rfl⟩
    · go_wp2
      · go_ret
        exact ⟨ret_bool (rightB_false 7 x7 (by rw [← unhide HL]; rfl) (okB_hi (by omega))).symm, rfl⟩
      · exact ⟨⟨8, by omega, rfl, (unhide HO).step (by rw [← unhide HL]; rfl) (okB_yes (x := x7) (by omega) (by omega))⟩, by simp [intOf]⟩
      · go_ret
        exact ⟨ret_bool (rightB_false 7 x7 (by rw [← unhide HL]; rfl) (okB_lo (by omega))).symm, rfl⟩
    · go_wp2
      go_ret
      exact ⟨ret_bool ((unhide HO).all (by rw [← unhide HL]; exact Nat.le_refl 8)).symm, rfl⟩

set_option maxRecDepth 100000 in
set_option maxHeartbeats 400000 in
theorem told_any (w : World) : Calls Tryd.prog 39 #[.agg #[.int .i64 x0, .int .i64 x1, .int .i64 x2, .int .i64 x3, .int .i64 x4, .int .i64 x5, .int .i64 x6, .int .i64 x7]] w fun e w' => e = .returned (.tuple #[.agg #[.int .i64 (sel (rightB [x0, x1, x2, x3, x4, x5, x6, x7]) x0), .int .i64 (sel (rightB [x0, x1, x2, x3, x4, x5, x6, x7]) x1), .int .i64 (sel (rightB [x0, x1, x2, x3, x4, x5, x6, x7]) x2), .int .i64 (sel (rightB [x0, x1, x2, x3, x4, x5, x6, x7]) x3), .int .i64 (sel (rightB [x0, x1, x2, x3, x4, x5, x6, x7]) x4), .int .i64 (sel (rightB [x0, x1, x2, x3, x4, x5, x6, x7]) x5), .int .i64 (sel (rightB [x0, x1, x2, x3, x4, x5, x6, x7]) x6), .int .i64 (sel (rightB [x0, x1, x2, x3, x4, x5, x6, x7]) x7)], .int .i64 (errOf (rightB [x0, x1, x2, x3, x4, x5, x6, x7]) 51)]) ∧ w' = ((w.alloc (.cells #[.int .i64 x0, .int .i64 x1, .int .i64 x2, .int .i64 x3, .int .i64 x4, .int .i64 x5, .int .i64 x6, .int .i64 x7] 24)).alloc (.cells #[.int .i64 (sel (rightB [x0, x1, x2, x3, x4, x5, x6, x7]) x0), .int .i64 (sel (rightB [x0, x1, x2, x3, x4, x5, x6, x7]) x1), .int .i64 (sel (rightB [x0, x1, x2, x3, x4, x5, x6, x7]) x2), .int .i64 (sel (rightB [x0, x1, x2, x3, x4, x5, x6, x7]) x3), .int .i64 (sel (rightB [x0, x1, x2, x3, x4, x5, x6, x7]) x4), .int .i64 (sel (rightB [x0, x1, x2, x3, x4, x5, x6, x7]) x5), .int .i64 (sel (rightB [x0, x1, x2, x3, x4, x5, x6, x7]) x6), .int .i64 (sel (rightB [x0, x1, x2, x3, x4, x5, x6, x7]) x7)] 24)).alloc (.cells #[.int .i64 x0, .int .i64 x1, .int .i64 x2, .int .i64 x3, .int .i64 x4, .int .i64 x5, .int .i64 x6, .int .i64 x7] 24) := by
  have HC := hide (right_any x0 x1 x2 x3 x4 x5 x6 x7)
  generalize rightB [x0, x1, x2, x3, x4, x5, x6, x7] = r at *
  cases r with
  | true =>
    simp only [sel_true, errOf_true]
    go_enter Tryd.func39, Tryd.ntmps39
    go_wp2_with (go_at_call 13; refine (unhide HC _).mono ?_; rintro e w' ⟨rfl, rfl⟩)
    exact bodyPost_ret (v := .tuple #[.agg #[.int .i64 x0, .int .i64 x1, .int .i64 x2, .int .i64 x3, .int .i64 x4, .int .i64 x5, .int .i64 x6, .int .i64 x7], .int .i64 0]) (by simp [results, Tryd.results39, go_sem]) rfl ⟨rfl, rfl⟩
  | false =>
    simp only [sel_false, errOf_false]
    go_enter Tryd.func39, Tryd.ntmps39
    go_wp2_with (go_at_call 13; refine (unhide HC _).mono ?_; rintro e w' ⟨rfl, rfl⟩)
    exact bodyPost_ret (v := .tuple #[.agg #[.int .i64 0, .int .i64 0, .int .i64 0, .int .i64 0, .int .i64 0, .int .i64 0, .int .i64 0, .int .i64 0], .int .i64 51]) (by simp [results, Tryd.results39, go_sem]) rfl ⟨rfl, rfl⟩
end
end Go.Proofs.YtccnbnfafhpeaaaDoor
