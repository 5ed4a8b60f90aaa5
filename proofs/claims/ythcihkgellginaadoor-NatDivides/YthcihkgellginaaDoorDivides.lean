/- The walk of NatDivides: it answers true, whatever it is handed. -/
import Derived.Test.YthcihkgellginaaDoorRefGcd
import Derived.Test.YthcihkgellginaaDoorKnown
namespace Go.Proofs.YthcihkgellginaaDoor
open Go.RowKit

set_option maxRecDepth 100000 in
set_option maxHeartbeats 2000000 in
theorem natDivides_walk (s t : ByteArray) (w : World) (hs : s.size ≤ maxLen) (ht : t.size ≤ maxLen) (htab : Tab w) :
    Calls Tryd.prog 5 #[.string s, .string t] w fun e w' => e = .returned (.bool true) ∧ Below w.heap.size w w' := by
  have C25 := hide (fun W h => natDivMod_any s t W hs ht h)
  have C26 := hide (fun W => refDivMod_any s t W hs ht)
  have C27 := hide (fun W h => natGcd_any s t W hs ht h)
  have C28 := hide (fun W => refGcd_any s t W hs ht)
  have HT := hide htab
  clear hs ht htab
  generalize quoText s t = A1 at *
  generalize remText s t = A2 at *
  generalize divErr s t = E1 at *
  generalize gcdText s t = A3 at *
  generalize gcdErr s t = E2 at *
  go_enter Tryd.func5, Tryd.ntmps5
  go_wp2_with (first
    | (go_at_call 25; refine (unhide C25 _ (unhide HT)).mono ?_; rintro e w1 ⟨rfl, hb1⟩)
    | (go_at_call 26; refine (unhide C26 _).mono ?_; rintro e w2 ⟨rfl, hc2⟩; have hb2 := hb1.trans (hc2.mono hb1.size); clear hc2)
    | (go_at_call 27; refine (unhide C27 _ ((unhide HT).later hb2)).mono ?_; rintro e w3 ⟨rfl, hc3⟩; have hb3 := hb2.trans (hc3.mono hb2.size); clear hc3)
    | (go_at_call 28; refine (unhide C28 _).mono ?_; rintro e w4 ⟨rfl, hc4⟩; have hb4 := hb3.trans (hc4.mono hb3.size); clear hc4)
    | (go_at_call 16; refine (known_any _ ((unhide HT).later hb4)).mono ?_; rintro e w9 ⟨rfl, hc9⟩; have hb9 := hb4.trans (hc9.mono hb4.size); clear hc9))
  all_goals go_ret
  all_goals exact ⟨rfl, hb9⟩
end Go.Proofs.YthcihkgellginaaDoor
