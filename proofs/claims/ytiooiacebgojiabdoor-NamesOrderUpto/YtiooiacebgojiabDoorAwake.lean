/- awake: the document's own examples. -/
import Derived.Test.YtiooiacebgojiabDoorFold
import Derived.Test.YtiooiacebgojiabDoorPowerFix
import Derived.Test.YtiooiacebgojiabDoorFar
namespace Go.Proofs.YtiooiacebgojiabDoor
open Go.RowKit

theorem class_37 : classOf 37 = 4 := by decide
set_option maxRecDepth 100000 in
set_option maxHeartbeats 1000000 in
theorem awake_any (w : World) (hT : Lib.Utf8Tabs 0 1 w) : Calls Tryd.prog 10 #[] w fun e w' => e = .returned (.bool true) ∧ Below w.heap.size w w' := by
  have HT := hide hT
  have HF := hide (fold_fix w)
  have HP := hide power_fix
  have HR := hide far_fix
  have HC := hide (class_any 37)
  rw [class_37] at HC
  clear hT
  go_enter Tryd.func10, Tryd.ntmps10
  go_wp2_with (first
    | (go_at_call 7; refine (unhide HF).mono ?_; rintro e w1 ⟨rfl, hb1⟩; have HB1 := hide hb1; clear HF hb1)
    | (go_at_call 13; refine (unhide HP w1).mono ?_; rintro e w2 ⟨rfl, hb2⟩; have HB2 := hide ((unhide HB1).trans (hb2.mono (unhide HB1).size)); have HT2 := hide (tabs_later (unhide HT) (unhide HB2)); clear HP hb2)
    | (go_at_call 17; refine (unhide HR w2 (unhide HT2)).mono ?_; rintro e w3 ⟨rfl, hb3⟩; have HB3 := hide ((unhide HB2).trans (hb3.mono (unhide HB2).size)); clear HR hb3)
    | (go_at_call 11; refine (unhide HC w3).mono ?_; rintro e w4 ⟨rfl, rfl⟩))
  go_ret
  exact ⟨rfl, unhide HB3⟩
end Go.Proofs.YtiooiacebgojiabDoor
