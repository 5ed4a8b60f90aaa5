/- The document's own letter and term. -/
import Derived.Test.YtccnbnfafhpeaaaDoorScan
import Derived.Handy
import Derived.WalkSmall
import Derived.Deep.Cut
namespace Go.Proofs.YtccnbnfafhpeaaaDoor
open Go.RowKit

def placeI (c : Int) : Int := match placeOf c with | some k => (k : Int) | none => -1

set_option maxRecDepth 100000 in
set_option maxHeartbeats 1000000 in
theorem letter_none (c : Int) (w : World) (h : placeOf c = none) : Calls Tryd.prog 67 #[.int .u8 c] w fun e w' => e = .returned (.int .i64 (-1)) ∧ w' = w := by
  obtain ⟨h0, h1, h2, h3, h4, h5, h6, h7⟩ := placeOf_none h
  have e0 : ((((⟨#[76, 77, 84, 73, 72, 78, 74, 66]⟩ : ByteArray)[0]'(by decide)).toNat : Int) == c) = false := by show ((76 : Int) == c) = false; rw [beq_eq_false_iff_ne]; omega
  have e1 : ((((⟨#[76, 77, 84, 73, 72, 78, 74, 66]⟩ : ByteArray)[1]'(by decide)).toNat : Int) == c) = false := by show ((77 : Int) == c) = false; rw [beq_eq_false_iff_ne]; omega
  have e2 : ((((⟨#[76, 77, 84, 73, 72, 78, 74, 66]⟩ : ByteArray)[2]'(by decide)).toNat : Int) == c) = false := by show ((84 : Int) == c) = false; rw [beq_eq_false_iff_ne]; omega
  have e3 : ((((⟨#[76, 77, 84, 73, 72, 78, 74, 66]⟩ : ByteArray)[3]'(by decide)).toNat : Int) == c) = false := by show ((73 : Int) == c) = false; rw [beq_eq_false_iff_ne]; omega
  have e4 : ((((⟨#[76, 77, 84, 73, 72, 78, 74, 66]⟩ : ByteArray)[4]'(by decide)).toNat : Int) == c) = false := by show ((72 : Int) == c) = false; rw [beq_eq_false_iff_ne]; omega
  have e5 : ((((⟨#[76, 77, 84, 73, 72, 78, 74, 66]⟩ : ByteArray)[5]'(by decide)).toNat : Int) == c) = false := by show ((78 : Int) == c) = false; rw [beq_eq_false_iff_ne]; omega
  have e6 : ((((⟨#[76, 77, 84, 73, 72, 78, 74, 66]⟩ : ByteArray)[6]'(by decide)).toNat : Int) == c) = false := by show ((74 : Int) == c) = false; rw [beq_eq_false_iff_ne]; omega
  have e7 : ((((⟨#[76, 77, 84, 73, 72, 78, 74, 66]⟩ : ByteArray)[7]'(by decide)).toNat : Int) == c) = false := by show ((66 : Int) == c) = false; rw [beq_eq_false_iff_ne]; omega
  clear h h0 h1 h2 h3 h4 h5 h6 h7
  go_enter Tryd.func67, Tryd.ntmps67
  go_wp2
  refine wp_loop_rounds 9 ?_
  repeat any_goals (rw [rounds_succ]; go_wp2)
  go_ret
  exact ⟨rfl, rfl⟩
set_option maxRecDepth 100000 in
set_option maxHeartbeats 1000000 in
theorem letter_is (k : Nat) (hk : k < 8) (w : World) : Calls Tryd.prog 67 #[.int .u8 ((lettersL.getD k 0 : Nat) : Int)] w fun e w' => e = .returned (.int .i64 (k : Int)) ∧ w' = w := by
  rcases eight (Nat.le_of_lt hk) with rfl | rfl | rfl | rfl | rfl | rfl | rfl | rfl | rfl
  all_goals first | omega | skip
  all_goals
    simp only [lettersL, List.getD_cons_zero, List.getD_cons_succ]
    go_enter Tryd.func67, Tryd.ntmps67
    go_wp2
    refine wp_loop_rounds 9 ?_
    repeat any_goals (rw [rounds_succ]; go_wp2)
    go_ret
    exact ⟨rfl, rfl⟩
theorem letter_any (c : Int) (w : World) : Calls Tryd.prog 67 #[.int .u8 c] w fun e w' => e = .returned (.int .i64 (placeI c)) ∧ w' = w := by
  unfold placeI
  cases h : placeOf c with
  | none => exact letter_none c w h
  | some k =>
    obtain ⟨hk, rfl⟩ := placeOf_is h
    exact letter_is k hk w
end Go.Proofs.YtccnbnfafhpeaaaDoor
