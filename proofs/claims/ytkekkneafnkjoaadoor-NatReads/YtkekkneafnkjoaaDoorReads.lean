/- The walk of NatReads: it answers true, whatever it is handed. -/
import Derived.Test.YtkekkneafnkjoaaDoorRefOf
namespace Go.Proofs.YtkekkneafnkjoaaDoor
open Go.RowKit

set_option maxRecDepth 100000 in
set_option maxHeartbeats 1000000 in
theorem natReads_walk (s : ByteArray) (u : Nat) (w : World) (hs : s.size ≤ maxLen) (hu : u < 18446744073709551616) (htab : Tab w) (her : ErrR w) :
    Calls Tryd.prog 3 #[.string s, .int .u64 (u : Int)] w fun e w' => e = .returned (.bool true) ∧ Below w.heap.size w w' := by
  have C9 := hide (natInt_any s w hs her)
  have C10 := hide (fun W => refInt_any s W hs)
  have C11 := hide (fun W => digits_any s W hs)
  have C12 := hide (fun W => refRight_any s W hs)
  have C13 := hide (fun W => right_any s W hs)
  have HT := hide htab
  have hs' : s.size ≤ 9223372036854775807 := hs
  generalize intVal s.data.toList = V at *
  generalize intErr s.data.toList = E at *
  clear hs htab her
  cases hr : Cub.rightB s.data.toList with
  | true =>
    simp only [hr, if_true] at C11 C12 C13
    clear hr
    go_enter Tryd.func3, Tryd.ntmps3
    go_wp2_with (first
      | (go_at_call 9; refine (unhide C9).mono ?_; rintro e w2 ⟨rfl, hb2⟩)
      | (go_at_call 10; refine (unhide C10 _).mono ?_; rintro e w' ⟨rfl, rfl⟩)
      | (go_at_call 11; refine (unhide C11 _).mono ?_; rintro e w' ⟨rfl, rfl⟩)
      | (go_at_call 12; refine (unhide C12 _).mono ?_; rintro e w' ⟨rfl, rfl⟩)
      | (go_at_call 13; refine (unhide C13 _).mono ?_; rintro e w' ⟨rfl, rfl⟩)
      | (go_at_call 14; refine (natOf_any u hu _ ((unhide HT).later hb2)).mono ?_; rintro e w3 ⟨rfl, hb3⟩; have hb4 := hb2.trans (hb3.mono hb2.size); clear hb3)
      | (go_at_call 15; refine (refOf_any u hu _).mono ?_; rintro e w4 ⟨rfl, hb5⟩; have hb6 := hb4.trans (hb5.mono hb4.size); clear hb5)
      | (go_at_call 16; refine (known_any _ ((unhide HT).later hb6)).mono ?_; rintro e w5 ⟨rfl, hb7⟩; have hb8 := hb6.trans (hb7.mono hb6.size); clear hb7))
    all_goals go_ret
    all_goals exact ⟨rfl, hb8⟩
  | false =>
    simp only [hr, Bool.false_eq_true, if_false] at C11 C12 C13
    clear hr
    have hz : ((0 : Int) == (s.size : Int)) = true ∨ ((0 : Int) == (s.size : Int)) = false := by cases ((0 : Int) == (s.size : Int)) <;> simp
    rcases hz with hz | hz
    all_goals
      go_enter Tryd.func3, Tryd.ntmps3
      go_wp2_with (first
        | (go_at_call 9; refine (unhide C9).mono ?_; rintro e w2 ⟨rfl, hb2⟩)
        | (go_at_call 10; refine (unhide C10 _).mono ?_; rintro e w' ⟨rfl, rfl⟩)
        | (go_at_call 11; refine (unhide C11 _).mono ?_; rintro e w' ⟨rfl, rfl⟩)
        | (go_at_call 12; refine (unhide C12 _).mono ?_; rintro e w' ⟨rfl, rfl⟩)
        | (go_at_call 13; refine (unhide C13 _).mono ?_; rintro e w' ⟨rfl, rfl⟩)
        | (go_at_call 14; refine (natOf_any u hu _ ((unhide HT).later hb2)).mono ?_; rintro e w3 ⟨rfl, hb3⟩; have hb4 := hb2.trans (hb3.mono hb2.size); clear hb3)
        | (go_at_call 15; refine (refOf_any u hu _).mono ?_; rintro e w4 ⟨rfl, hb5⟩; have hb6 := hb4.trans (hb5.mono hb4.size); clear hb5)
        | (go_at_call 16; refine (known_any _ ((unhide HT).later hb6)).mono ?_; rintro e w5 ⟨rfl, hb7⟩; have hb8 := hb6.trans (hb7.mono hb6.size); clear hb7))
      go_ret
      exact ⟨rfl, hb8⟩
end Go.Proofs.YtkekkneafnkjoaaDoor
