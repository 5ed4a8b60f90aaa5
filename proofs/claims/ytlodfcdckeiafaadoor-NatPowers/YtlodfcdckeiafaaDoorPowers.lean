/- The walk of NatPowers: it answers true, whatever it is handed. -/
import Derived.Test.YtlodfcdckeiafaaDoorRootOps
import Derived.Test.YtlodfcdckeiafaaDoorRefRooted
import Derived.Test.YtlodfcdckeiafaaDoorRefPow
import Derived.Test.YtlodfcdckeiafaaDoorKnown
namespace Go.Proofs.YtlodfcdckeiafaaDoor
open Go.RowKit

theorem int_range {n : Int} (h : (Lit.int .i64 n).wf = true) : -9223372036854775808 ≤ n ∧ n ≤ 9223372036854775807 := by
  have e1 : IntKind.i64.min = -9223372036854775808 := rfl
  have e2 : IntKind.i64.max = 9223372036854775807 := rfl
  simp [Lit.wf, e1, e2] at h
  exact h

set_option maxRecDepth 100000 in
set_option maxHeartbeats 2000000 in
theorem natPowers_walk (s : ByteArray) (n : Int) (w : World) (hs : s.size ≤ maxLen) (hn1 : -9223372036854775808 ≤ n) (hn2 : n ≤ 9223372036854775807) (htab : Tab w) :
    Calls Tryd.prog 6 #[.string s, .int .i64 n] w fun e w' => e = .returned (.bool true) ∧ Below w.heap.size w w' := by
  have C29 := hide (fun W h => natPow_any s n W hs hn1 hn2 h)
  have C30 := hide (fun W => refPow_any s n W hs hn1 hn2)
  have C31 := hide (fun W h => natRoot_any s n W hs hn1 hn2 h)
  have C32 := hide (fun W => refRooted_any s n W hs hn1 hn2)
  have HT := hide htab
  clear hs htab
  generalize powText s n = A1 at *
  generalize powErr s n = E1 at *
  generalize rootText s n = A2 at *
  generalize rootErr s n = E2 at *
  go_enter Tryd.func6, Tryd.ntmps6
  go_wp2_with (first
    | (go_at_call 29; refine (unhide C29 _ (unhide HT)).mono ?_; rintro e w1 ⟨rfl, hb1⟩)
    | (go_at_call 30; refine (unhide C30 _).mono ?_; rintro e w2 ⟨rfl, hc2⟩; have hb2 := hb1.trans (hc2.mono hb1.size); clear hc2)
    | (go_at_call 31; refine (unhide C31 _ ((unhide HT).later hb2)).mono ?_; rintro e w3 ⟨rfl, hc3⟩; have hb3 := hb2.trans (hc3.mono hb2.size); clear hc3)
    | (go_at_call 32; refine (unhide C32 _).mono ?_; rintro e w4 ⟨rfl, hc4⟩; have hb4 := hb3.trans (hc4.mono hb3.size); clear hc4)
    | (go_at_call 16; refine (known_any _ ((unhide HT).later hb4)).mono ?_; rintro e w9 ⟨rfl, hc9⟩; have hb9 := hb4.trans (hc9.mono hb4.size); clear hc9))
  all_goals go_ret
  all_goals exact ⟨rfl, hb9⟩
end Go.Proofs.YtlodfcdckeiafaaDoor
