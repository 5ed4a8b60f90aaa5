/- NamesFar: true, whatever the input. -/
import Derived.Test.YtiooiacebgojiaaDoorRefFar
import Derived.Test.YtiooiacebgojiaaDoorAwake
namespace Go.Proofs.YtiooiacebgojiaaDoor
open Go.RowKit

theorem far_law (a b : ByteArray) (w : World) (hT : Lib.Utf8Tabs 0 1 w) :
    Calls Tryd.prog 7 #[.string a, .string b] w fun e w' => e = .returned (.bool true) ∧ Below w.heap.size w w' := by
  obtain ⟨x, y, hv⟩ : ∃ x y : Int, farV a b = .tuple #[.int .i64 x, .int .i64 y] := by
    unfold farV
    split
    · exact ⟨_, _, rfl⟩
    · exact ⟨_, _, rfl⟩
  have H1 := hide (fun w (h : Lib.Utf8Tabs 0 1 w) => far_any a b w h)
  have H2 := hide (fun w (h : Lib.Utf8Tabs 0 1 w) => refFar_any a b w h)
  rw [hv] at H1 H2
  have HA := hide awake_any
  have HT := hide hT
  clear hT hv
  go_enter Tryd.func7, Tryd.ntmps7
  go_wp2_with (first
    | (go_at_call 25; refine (unhide H1 w (unhide HT)).mono ?_; rintro e w1 ⟨rfl, hb1⟩; have HB1 := hide hb1; have HT1 := hide (tabs_later (unhide HT) hb1); clear H1 hb1)
    | (go_at_call 26; refine (unhide H2 w1 (unhide HT1)).mono ?_; rintro e w2 ⟨rfl, hb2⟩; have HB2 := hide ((unhide HB1).trans (hb2.mono (unhide HB1).size)); have HT2 := hide (tabs_later (unhide HT1) hb2); clear H2 hb2)
    | (go_at_call 15; refine (unhide HA w2 (unhide HT2)).mono ?_; rintro e w3 ⟨rfl, hb3⟩))
  go_ret
  exact ⟨rfl, (unhide HB2).trans (hb3.mono (unhide HB2).size)⟩
end Go.Proofs.YtiooiacebgojiaaDoor
