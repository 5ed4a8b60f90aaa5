/- names.order: how two texts stand to one another. -/
import Derived.Test.YtiooiacebgojiabDoorOrderMath
import Derived.Test.YtiooiacebgojiabDoorShelf3
namespace Go.Proofs.YtiooiacebgojiabDoor
open Go.RowKit

def orI (x y : Int) : Int := if x = 0 then y else x
theorem cmpOr_any (g : Nat) (x y : Int) (w : World) (c0 : w.cell? ⟨g, 0, none⟩ = some (.int .i64 x)) (c1 : w.cell? ⟨g, 1, none⟩ = some (.int .i64 y)) :
    Calls Tryd.prog 44 #[.slice (some ⟨g, 0, none⟩) 2 2] w fun e w' => e = .returned (.int .i64 (orI x y)) ∧ w' = w := by
  go_enter Tryd.func44, Tryd.ntmps44
  go_upto_region 3 with fail
  go_loopw [8] (fun v8 wr => ∃ i : Nat, v8 = .int .i64 (i : Int) ∧ i ≤ 2 ∧ Hid (1 ≤ i → x = 0) ∧ Hid (2 ≤ i → y = 0) ∧ wr = w) (fun v8 _ => 2 - (intOf v8).toNat)
  case atStart => exact ⟨0, rfl, by omega, fun h => absurd h (by omega), fun h => absurd h (by omega), rfl⟩
  case round =>
    obtain ⟨i, rfl, hi, HX, HY, hwr⟩ := hrel
    obtain rfl : w = wr := hwr.symm
    rcases (by omega : i = 0 ∨ i = 1 ∨ i = 2) with rfl | rfl | rfl
    · by_cases hx : x = 0
      · subst hx
        go_wp2_with fail
        go_roundw
        case rel => exact ⟨1, by go_num, by omega, fun _ => by first | rfl | trivial, fun h => absurd h (by omega), by first | rfl | trivial⟩
        case measure => simp [intOf]
      · have e : (x == 0) = false := by rw [beq_eq_false_iff_ne]; exact hx
        have HV : Hid (orI x y = x) := if_neg hx
        clear hx
        go_wp2_with fail
        go_ret
        exact ⟨by rw [unhide HV]; rfl, rfl⟩
    · have hx := unhide HX (by omega)
      by_cases hy : y = 0
      · subst hy
        go_wp2_with fail
        go_roundw
        case rel => exact ⟨2, by go_num, by omega, fun _ => hx, fun _ => by first | rfl | trivial, by first | rfl | trivial⟩
        case measure => simp [intOf]
      · have e : (y == 0) = false := by rw [beq_eq_false_iff_ne]; exact hy
        have HV : Hid (orI x y = y) := if_pos hx
        clear hy hx
        go_wp2_with fail
        go_ret
        exact ⟨by rw [unhide HV]; rfl, rfl⟩
    · have HV : Hid (orI x y = 0) := by show _ = _; unfold orI; rw [if_pos (unhide HX (by omega))]; exact unhide HY (by omega)
      go_wp2_with fail
      go_ret
      exact ⟨by rw [unhide HV]; rfl, rfl⟩
theorem ordC_or (a b : ByteArray) {x : Int} (h : Ro a b 0 0 x) : orI x (Lib.compareBytes a.data.toList b.data.toList) = ordC a b := by
  have e := ro_lex h (Nat.zero_le _) (Nat.zero_le _)
  rw [ordC_eq, ← e]
  rfl

set_option maxRecDepth 100000 in
set_option maxHeartbeats 1000000 in
theorem order_any (a b : ByteArray) (w : World) (ha : a.size ≤ 1000000000000000) (hb : b.size ≤ 1000000000000000) (hT : Lib.Utf8Tabs 0 1 w) :
    Calls Tryd.prog 32 #[.string a, .string b] w fun e w' => e = .returned (.int .i64 (ordC a b)) ∧ Below w.heap.size w w' := by
  have HR := hide (runeOrder_any a b w ha hb hT)
  have HC := hide (Tryd.strings_Compare a b)
  have HO := hide (fun x (h : Ro a b 0 0 x) => ordC_or a b h)
  clear hT
  generalize Lib.compareBytes a.data.toList b.data.toList = c at *
  go_enter Tryd.func32, Tryd.ntmps32
  go_wp2_with (first
    | (go_at_call 45; refine (unhide HR).mono ?_; rintro e w1 ⟨hro, hb1⟩; obtain ⟨x, rfl, hx⟩ := hro; have HB1 := hide hb1; have HV := hide (unhide HO x hx); clear hb1 hx)
    | (go_at_call 46; refine (unhide HC w1).mono ?_; rintro e w2 ⟨rfl, h⟩; rw [h]; clear h; have HOR := hide (cmpOr_any w1.heap.size x c (w1.alloc (.cells #[.int .i64 x, .int .i64 c] 3)) (by simp) (by simp)))
    | (go_at_call 44; refine (unhide HOR).mono ?_; rintro e w3 ⟨rfl, h⟩; rw [h]; clear h))
  go_ret
  exact ⟨by rw [← unhide HV]; rfl, (unhide HB1).alloc (unhide HB1).size _⟩
end Go.Proofs.YtiooiacebgojiabDoor
