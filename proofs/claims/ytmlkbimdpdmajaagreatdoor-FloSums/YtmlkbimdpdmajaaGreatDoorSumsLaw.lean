/- FloSums (3): true, whatever the floats. -/
import Derived.Test.YtmlkbimdpdmajaaGreatDoorKeptL
namespace Go.Proofs.YtmlkbimdpdmajaaGreatDoor
open Go.RowKit
set_option maxRecDepth 100000 in
set_option maxHeartbeats 2000000 in
theorem law_sums (v : Value) (l : List Nat) (w : World) (h : RowF w v l) (hlt : ∀ x ∈ l, x < 18446744073709551616) (hlen : l.length ≤ 17592186044415) (htab : Tab w) : Calls Tryz.prog 3 #[v] w fun r w' => r = .returned (.bool true) ∧ Below w.heap.size w w' := by
  obtain ⟨a, cap, rfl, hc, hm, hnn, hr⟩ := h
  have hin : InMem w a l := fun i hi => by obtain ⟨b, o, e, _, hcell⟩ := hr i hi; exact ⟨b, o, e, hcell⟩
  have hrow : RowF w (.slice a l.length cap) l := ⟨a, cap, rfl, hc, hm, hnn, hr⟩
  have H7 := hide (lent_any a l.length cap l w rfl hlen hnn hin)
  have H9 : Hid (∀ W g c2, Lent W w.heap.size (.slice (some ⟨g, 0, none⟩) l.length c2) l.length l → Calls Tryz.prog 9 #[.slice (some ⟨g, 0, none⟩) l.length c2] W fun e w' => ∃ r : Nat, e = .returned (.float .f64 r) ∧ nm r = sumN l ∧ r < 18446744073709551616 ∧ Below W.heap.size W w') := fun W g c2 hl => sum_any _ l W (hl.row rfl)
  have H10 : Hid (∀ W, Below w.heap.size w W → Calls Tryz.prog 10 #[.slice a l.length cap] W fun e w' => ∃ r : Nat, e = .returned (.float .f64 r) ∧ nm r = sumN l ∧ r < 18446744073709551616 ∧ Below W.heap.size W w') := fun W hb => sumr_any _ l W (hrow.later hb)
  have H11 : Hid (∀ W g c2, Lent W w.heap.size (.slice (some ⟨g, 0, none⟩) l.length c2) l.length l → Calls Tryz.prog 11 #[.slice (some ⟨g, 0, none⟩) l.length c2] W fun e w' => ∃ r : Nat, e = .returned (.float .f64 r) ∧ nm r = keptN l ∧ r < 18446744073709551616 ∧ Below W.heap.size W w') := fun W g c2 hl => kept_any _ l W (hl.row rfl) hlt
  have H12 : Hid (∀ W, Below w.heap.size w W → Calls Tryz.prog 12 #[.slice a l.length cap] W fun e w' => ∃ r : Nat, e = .returned (.float .f64 r) ∧ nm r = keptN l ∧ r < 18446744073709551616 ∧ Below W.heap.size W w') := fun W hb => keptr_any _ l W (hrow.later hb) hlt
  have H13 : Hid (∀ W g c2, Lent W w.heap.size (.slice (some ⟨g, 0, none⟩) l.length c2) l.length l → Below w.heap.size w W → Calls Tryz.prog 13 #[.slice (some ⟨g, 0, none⟩) l.length c2, .slice a l.length cap] W fun e w' => e = .returned (.bool true) ∧ Below W.heap.size W w') := fun W g c2 hl hb => keptl_any _ w.heap.size a l.length cap l W rfl hlen hl (hin.later hb)
  have H14 : Hid (∀ W, Below w.heap.size w W → Calls Tryz.prog 14 #[] W fun r w' => r = .returned (.bool true) ∧ Below W.heap.size W w') := fun W hb => known_ok W (htab.later hb)
  have H8 : Hid (∀ x y W, nm x = nm y → Calls Tryz.prog 8 #[.float .f64 x, .float .f64 y] W fun e w' => e = .returned (.bool true) ∧ w' = W) := fun x y W e => by
    have h := same_any x y W
    rw [same_nm, decide_eq_true e] at h
    exact h
  clear hr hin hrow hlen hlt htab hnn hc
  generalize hL : l.length = n at *
  have HLN := hide hL
  clear hL
  go_enter Tryz.func3, Tryz.ntmps3
  go_wp2_with (first
    | (go_at_call 7; refine (unhide H7).mono ?_; rintro e w1 ⟨v7, rfl, hl7, hb1⟩; obtain ⟨g, c2, rfl, hh⟩ := id hl7; have HL1 := hide hl7; have HB1 := hide hb1; clear hl7 hb1 hh)
    | (go_at_call 9; refine (unhide H9 _ _ _ (unhide HL1)).mono ?_; rintro e w2 ⟨r9, rfl, hn9, _, hb2⟩; have HN9 := hide hn9; have HL2 := hide ((unhide HL1).later hb2); have HB2 := hide ((unhide HB1).trans (hb2.mono (unhide HB1).size)); clear hb2; clear hn9)
    | (go_at_call 10; refine (unhide H10 _ (unhide HB2)).mono ?_; rintro e w3 ⟨r10, rfl, hn10, _, hb3⟩; have HN10 := hide ((unhide HN9).trans hn10.symm); have HL3 := hide ((unhide HL2).later hb3); have HB3 := hide ((unhide HB2).trans (hb3.mono (unhide HB2).size)); clear hb3; clear hn10)
    | (go_at_call 11; refine (unhide H11 _ _ _ (unhide HL3)).mono ?_; rintro e w4 ⟨r11, rfl, hn11, _, hb4⟩; have HN11 := hide hn11; have HL4 := hide ((unhide HL3).later hb4); have HB4 := hide ((unhide HB3).trans (hb4.mono (unhide HB3).size)); clear hb4; clear hn11)
    | (go_at_call 12; refine (unhide H12 _ (unhide HB4)).mono ?_; rintro e w5 ⟨r12, rfl, hn12, _, hb5⟩; have HN12 := hide ((unhide HN11).trans hn12.symm); have HL5 := hide ((unhide HL4).later hb5); have HB5 := hide ((unhide HB4).trans (hb5.mono (unhide HB4).size)); clear hb5; clear hn12)
    | (go_at_call 8; with_reducible refine (unhide H8 r9 r10 _ (unhide HN10)).mono ?_; rintro e wq ⟨rfl, hw⟩; have hw2 := hw.symm; subst hw2; clear hw)
    | (go_at_call 8; with_reducible refine (unhide H8 r11 r12 _ (unhide HN12)).mono ?_; rintro e wq ⟨rfl, hw⟩; have hw2 := hw.symm; subst hw2; clear hw)
    | (go_at_call 13; refine (unhide H13 _ _ _ (unhide HL5) (unhide HB5)).mono ?_; rintro e w6 ⟨rfl, hb6⟩; have HB6 := hide ((unhide HB5).trans (hb6.mono (unhide HB5).size)); clear hb6)
    | (go_at_call 14; refine (unhide H14 _ (unhide HB6)).mono ?_; rintro e w7 ⟨rfl, hb7⟩; have HB7 := hide ((unhide HB6).trans (hb7.mono (unhide HB6).size)); clear hb7))
  go_ret
  exact ⟨rfl, unhide HB7⟩
end Go.Proofs.YtmlkbimdpdmajaaGreatDoor
