/- NamesFolds: true, whatever the input, as long as the text is not too great. -/
import Derived.Test.YtiooiacebgojiaaDoorRefFold
import Derived.Test.YtiooiacebgojiaaDoorClass3
import Derived.Test.YtiooiacebgojiaaDoorAwake
namespace Go.Proofs.YtiooiacebgojiaaDoor
open Go.RowKit

theorem folds_same (s : ByteArray) (hs : s.size ≤ 1000000000000) : ∃ (t : ByteArray) (x y : Int), (∀ w, Calls Tryd.prog 9 #[.string s] w fun e w' => e = .returned (.tuple #[.string t, .int .i64 x, .int .i64 y]) ∧ Below w.heap.size w w') ∧
    ∀ w, Lib.Utf8Tabs 0 1 w → Calls Tryd.prog 10 #[.string s] w fun e w' => e = .returned (.tuple #[.string t, .int .i64 x, .int .i64 y]) ∧ Below w.heap.size w w' := by
  by_cases hex : ∃ out q, Lg s 0 0 [] out q
  · obtain ⟨out, q, hl⟩ := hex
    obtain ⟨t, x, y, hv⟩ : ∃ (t : ByteArray) (x y : Int), foldV s out q = .tuple #[.string t, .int .i64 x, .int .i64 y] := by
      unfold foldV
      split
      · exact ⟨_, _, _, rfl⟩
      · split
        · exact ⟨_, _, _, rfl⟩
        · split
          · exact ⟨_, _, _, rfl⟩
          · exact ⟨_, _, _, rfl⟩
    refine ⟨t, x, y, fun w => (fold_any s w hs).mono ?_, fun w hT => (refFold_any s w hs hT).mono ?_⟩
    · rintro e w' ⟨⟨o', q', rfl, hl'⟩, hb⟩
      obtain ⟨rfl, rfl⟩ := hl.det hl'
      exact ⟨by rw [hv], hb⟩
    · rintro e w' ⟨hf, hb⟩
      obtain ⟨o', q', rfl, hl'⟩ := hf
      obtain ⟨rfl, rfl⟩ := hl.det hl'
      exact ⟨by rw [hv], hb⟩
  · refine ⟨⟨#[]⟩, 0, 0, fun w => (fold_any s w hs).mono ?_, fun w hT => (refFold_any s w hs hT).mono ?_⟩
    · rintro e w' ⟨⟨o', q', rfl, hl'⟩, hb⟩
      exact absurd ⟨o', q', hl'⟩ hex
    · rintro e w' ⟨hf, hb⟩
      obtain ⟨o', q', rfl, hl'⟩ := hf
      exact absurd ⟨o', q', hl'⟩ hex
theorem text_eqb (a b : ByteArray) : (a.toList == b.toList) = decide (a = b) := by
  rw [Bool.eq_iff_iff, beq_iff_eq, decide_eq_true_iff, ByteArray.toList_eq, ByteArray.toList_eq]
  constructor
  · intro h
    have e2 : a.data = b.data := Array.toList_inj.1 h
    cases a; cases b; simpa using e2
  · rintro rfl; rfl
theorem right_of (s t : ByteArray) (x y : Int) (w : World) (h : Calls Tryd.prog 9 #[.string s] w fun e w' => e = .returned (.tuple #[.string t, .int .i64 x, .int .i64 y]) ∧ Below w.heap.size w w') : Calls Tryd.prog 11 #[.string s] w fun e w' => e = .returned (.bool (x == 0 && decide (t = s))) ∧ Below w.heap.size w w' := by
  have HF := hide h
  have hq := text_eqb t s
  clear h
  cases hx : (x == 0)
  · go_enter Tryd.func11, Tryd.ntmps11
    go_wp2_with (go_at_call 9; refine (unhide HF).mono ?_; rintro e w1 ⟨rfl, hb1⟩)
    go_ret
    exact ⟨rfl, hb1⟩
  · generalize decide (t = s) = d at *
    go_enter Tryd.func11, Tryd.ntmps11
    go_wp2_with (go_at_call 9; refine (unhide HF).mono ?_; rintro e w1 ⟨rfl, hb1⟩)
    go_ret
    exact ⟨rfl, hb1⟩
theorem refRight_of (s t : ByteArray) (x y : Int) (w : World) (h : Calls Tryd.prog 10 #[.string s] w fun e w' => e = .returned (.tuple #[.string t, .int .i64 x, .int .i64 y]) ∧ Below w.heap.size w w') : Calls Tryd.prog 12 #[.string s] w fun e w' => e = .returned (.bool (x == 0 && decide (t = s))) ∧ Below w.heap.size w w' := by
  have HF := hide h
  have hq := text_eqb t s
  clear h
  cases hx : (x == 0)
  · go_enter Tryd.func12, Tryd.ntmps12
    go_wp2_with (go_at_call 10; refine (unhide HF).mono ?_; rintro e w1 ⟨rfl, hb1⟩)
    go_ret
    exact ⟨rfl, hb1⟩
  · generalize decide (t = s) = d at *
    go_enter Tryd.func12, Tryd.ntmps12
    go_wp2_with (go_at_call 10; refine (unhide HF).mono ?_; rintro e w1 ⟨rfl, hb1⟩)
    go_ret
    exact ⟨rfl, hb1⟩

set_option maxRecDepth 100000 in
set_option maxHeartbeats 1000000 in
theorem folds_law (s : ByteArray) (r : Int) (w : World) (hs : s.size ≤ 1000000000000) (hT : Lib.Utf8Tabs 0 1 w) :
    Calls Tryd.prog 3 #[.string s, .int .i32 r] w fun e w' => e = .returned (.bool true) ∧ Below w.heap.size w w' := by
  obtain ⟨t, x, y, h1, h2⟩ := folds_same s hs
  have H3 := hide (fun w => right_of s t x y w (h1 w))
  have H4 := hide (fun w hT => refRight_of s t x y w (h2 w hT))
  have H1 := hide h1
  have H2 := hide h2
  have H5 := hide (class_any r)
  have H6 := hide (rclass_any r)
  have HA := hide awake_any
  have HT := hide hT
  clear h1 h2 hT
  generalize (x == 0 && decide (t = s)) = rb at *
  generalize classOf r = c at *
  go_enter Tryd.func3, Tryd.ntmps3
  go_wp2_with (first
    | (go_at_call 9; refine (unhide H1 w).mono ?_; rintro e w1 ⟨rfl, hb1⟩; have HB1 := hide hb1; have HT1 := hide (tabs_later (unhide HT) hb1); clear H1 hb1)
    | (go_at_call 10; refine (unhide H2 w1 (unhide HT1)).mono ?_; rintro e w2 ⟨rfl, hb2⟩; have HB2 := hide ((unhide HB1).trans (hb2.mono (unhide HB1).size)); have HT2 := hide (tabs_later (unhide HT1) hb2); clear H2 hb2)
    | (go_at_call 11; refine (unhide H3 w2).mono ?_; rintro e w3 ⟨rfl, hb3⟩; have HB3 := hide ((unhide HB2).trans (hb3.mono (unhide HB2).size)); have HT3 := hide (tabs_later (unhide HT2) hb3); clear H3 hb3)
    | (go_at_call 12; refine (unhide H4 w3 (unhide HT3)).mono ?_; rintro e w4 ⟨rfl, hb4⟩; have HB4 := hide ((unhide HB3).trans (hb4.mono (unhide HB3).size)); have HT4 := hide (tabs_later (unhide HT3) hb4); clear H4 hb4)
    | (go_at_call 13; refine (unhide H5 w4).mono ?_; rintro e w5 ⟨rfl, h5⟩; rw [h5]; clear h5)
    | (go_at_call 14; refine (unhide H6 w4).mono ?_; rintro e w6 ⟨rfl, h6⟩; rw [h6]; clear h6)
    | (go_at_call 15; refine (unhide HA w4 (unhide HT4)).mono ?_; rintro e w7 ⟨rfl, hb7⟩))
  go_ret
  exact ⟨rfl, (unhide HB4).trans (hb7.mono (unhide HB4).size)⟩
end Go.Proofs.YtiooiacebgojiaaDoor
