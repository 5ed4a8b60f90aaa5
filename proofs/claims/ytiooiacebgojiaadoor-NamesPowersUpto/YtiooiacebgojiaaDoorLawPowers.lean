/- NamesPowers: true, whatever the input, as long as the text is not too great. -/
import Derived.Test.YtiooiacebgojiaaDoorRefPower2
import Derived.Test.YtiooiacebgojiaaDoorRefRaise
import Derived.Test.YtiooiacebgojiaaDoorAwake
import Derived.Lib.AppendIntMem
namespace Go.Proofs.YtiooiacebgojiaaDoor
open Go.RowKit

theorem tab_later {w w' : World} (h : Tab w) (hb : Below w.heap.size w w') : Tab w' := Lib.tabBelow_of_tabIs h w' hb
/-- Both Powers give the same three numbers. -/
theorem powers_same (s : ByteArray) (a : Int) (hs : s.size ≤ 1000000000000) : ∃ x y z : Int, (∀ w, Calls Tryd.prog 18 #[.string s, .int .i64 a] w fun e w' => e = .returned (.tuple #[.int .i64 x, .int .i64 y, .int .i64 z]) ∧ Below w.heap.size w w') ∧
    ∀ w, Lib.Utf8Tabs 0 1 w → Calls Tryd.prog 19 #[.string s, .int .i64 a] w fun e w' => e = .returned (.tuple #[.int .i64 x, .int .i64 y, .int .i64 z]) ∧ Below w.heap.size w w' := by
  by_cases h : a < 0 ∨ (s.size : Int) < a
  · refine ⟨0, 0, 1, fun w => (power_out s a h w).mono ?_, fun w _ => (refPower_out s a h w).mono ?_⟩
    · rintro e w' ⟨rfl, rfl⟩; exact ⟨rfl, Below.refl _ _⟩
    · rintro e w' ⟨rfl, rfl⟩; exact ⟨rfl, Below.refl _ _⟩
  · obtain ⟨k, rfl⟩ : ∃ k : Nat, a = (k : Int) := ⟨a.toNat, by omega⟩
    have hk : k ≤ s.size := by omega
    have hex : (∃ A Z B, Pw (s.extract k s.size) 0 0 0 false A Z B) ∨ ∀ A Z B, ¬ Pw (s.extract k s.size) 0 0 0 false A Z B := by
      by_cases q : ∃ A Z B, Pw (s.extract k s.size) 0 0 0 false A Z B
      · exact .inl q
      · exact .inr fun A Z B hp => q ⟨A, Z, B, hp⟩
    rcases hex with ⟨A, Z, B, hp⟩ | hno
    · obtain ⟨x, y, z, hv⟩ : ∃ x y z : Int, powV A Z B = .tuple #[.int .i64 x, .int .i64 y, .int .i64 z] := by
        unfold powV
        split
        · exact ⟨_, _, _, rfl⟩
        · split
          · exact ⟨_, _, _, rfl⟩
          · exact ⟨_, _, _, rfl⟩
      refine ⟨x, y, z, fun w => (power_at s _ k hk rfl w (by omega)).mono ?_, fun w hT => (refPower_at s _ k hk rfl w hs hT).mono ?_⟩
      · rintro e w' ⟨hq, hb⟩
        obtain ⟨A', Z', B', rfl, hp'⟩ := hq
        obtain ⟨rfl, rfl, rfl⟩ := hp.det hp'
        exact ⟨by rw [hv], hb⟩
      · rintro e w' ⟨hq, hb⟩
        obtain ⟨A', Z', B', rfl, hp'⟩ := hq
        obtain ⟨rfl, rfl, rfl⟩ := hp.det hp'
        exact ⟨by rw [hv], hb⟩
    · refine ⟨0, 0, 0, fun w => (power_at s _ k hk rfl w (by omega)).mono ?_, fun w hT => (refPower_at s _ k hk rfl w hs hT).mono ?_⟩
      · rintro e w' ⟨hq, hb⟩
        obtain ⟨A', Z', B', rfl, hp'⟩ := hq
        exact absurd hp' (hno _ _ _)
      · rintro e w' ⟨hq, hb⟩
        obtain ⟨A', Z', B', rfl, hp'⟩ := hq
        exact absurd hp' (hno _ _ _)
/-- Both Raises give the same. -/
theorem raises_same (n : Int) : ∃ (t : ByteArray) (z : Int), (∀ w, Tab w → Calls Tryd.prog 20 #[.int .i64 n] w fun e w' => e = .returned (.tuple #[.string t, .int .i64 z]) ∧ Below w.heap.size w w') ∧
    ∀ w, Tab w → Calls Tryd.prog 21 #[.int .i64 n] w fun e w' => e = .returned (.tuple #[.string t, .int .i64 z]) ∧ Below w.heap.size w w' := by
  by_cases h : n < -99 ∨ 99 < n
  · exact ⟨_, _, fun w _ => raise_out n h w, fun w _ => refRaise_out n h w⟩
  · exact ⟨_, _, fun w ht => raise_any n (by omega) (by omega) w (fun W hb => tab_later ht hb), fun w ht => refRaise_any n (by omega) (by omega) w ht⟩

set_option maxRecDepth 100000 in
set_option maxHeartbeats 1000000 in
theorem powers_law (s : ByteArray) (a n : Int) (w : World) (hs : s.size ≤ 1000000000000) (hT : Lib.Utf8Tabs 0 1 w) (ht : Tab w) :
    Calls Tryd.prog 5 #[.string s, .int .i64 a, .int .i64 n] w fun e w' => e = .returned (.bool true) ∧ Below w.heap.size w w' := by
  obtain ⟨x, y, z, h1, h2⟩ := powers_same s a hs
  obtain ⟨t, q, h3, h4⟩ := raises_same n
  have H1 := hide h1
  have H2 := hide h2
  have H3 := hide h3
  have H4 := hide h4
  have HA := hide awake_any
  have HT := hide hT
  have HP := hide ht
  clear h1 h2 h3 h4 hT ht
  go_enter Tryd.func5, Tryd.ntmps5
  go_wp2_with (first
    | (go_at_call 18; refine (unhide H1 w).mono ?_; rintro e w1 ⟨rfl, hb1⟩; have HB1 := hide hb1; have HT1 := hide (tabs_later (unhide HT) hb1); have HP1 := hide (tab_later (unhide HP) hb1); clear H1 hb1)
    | (go_at_call 19; refine (unhide H2 w1 (unhide HT1)).mono ?_; rintro e w2 ⟨rfl, hb2⟩; have HB2 := hide ((unhide HB1).trans (hb2.mono (unhide HB1).size)); have HT2 := hide (tabs_later (unhide HT1) hb2); have HP2 := hide (tab_later (unhide HP1) hb2); clear H2 hb2)
    | (go_at_call 20; refine (unhide H3 w2 (unhide HP2)).mono ?_; rintro e w3 ⟨rfl, hb3⟩; have HB3 := hide ((unhide HB2).trans (hb3.mono (unhide HB2).size)); have HT3 := hide (tabs_later (unhide HT2) hb3); have HP3 := hide (tab_later (unhide HP2) hb3); clear H3 hb3)
    | (go_at_call 21; refine (unhide H4 w3 (unhide HP3)).mono ?_; rintro e w4 ⟨rfl, hb4⟩; have HB4 := hide ((unhide HB3).trans (hb4.mono (unhide HB3).size)); have HT4 := hide (tabs_later (unhide HT3) hb4); clear H4 hb4)
    | (go_at_call 15; refine (unhide HA w4 (unhide HT4)).mono ?_; rintro e w5 ⟨rfl, hb5⟩))
  go_ret
  exact ⟨rfl, (unhide HB4).trans (hb5.mono (unhide HB4).size)⟩
end Go.Proofs.YtiooiacebgojiaaDoor
