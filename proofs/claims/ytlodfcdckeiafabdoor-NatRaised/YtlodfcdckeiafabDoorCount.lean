/- ref Count. -/
import Derived.Test.YtlodfcdckeiafabDoorPowOps
import Derived.Deep.Cut
namespace Go.Proofs.YtlodfcdckeiafabDoor
open Go.RowKit

set_option maxRecDepth 100000 in
theorem count_any (n : Int) (c : Nat) (w : World) (hc : n % 2000 = (c : Int)) (hn1 : -9223372036854775808 ≤ n) (hn2 : n ≤ 9223372036854775807) :
    Calls Tryd.prog 13 #[.int .i64 n, .int .i64 2000] w fun e w' => e = .returned (.int .i64 (c : Int)) ∧ w' = w := by
  obtain ⟨t, ht⟩ : ∃ t, t = n.tmod 2000 := ⟨_, rfl⟩
  have h1 : t < 2000 ∧ -2000 < t ∧ (t < 0 → t + 2000 = (c : Int)) ∧ (0 ≤ t → t = (c : Int)) := by
    rw [ht]
    rcases Int.le_total 0 n with h | h
    · rw [Int.tmod_eq_emod_of_nonneg h]; omega
    · have e : n.tmod 2000 = -((-n) % 2000) := by
        have := Int.neg_tmod (-n) 2000
        rw [Int.neg_neg, Int.tmod_eq_emod_of_nonneg (show (0 : Int) ≤ -n by omega)] at this
        exact this
      rw [e]; omega
  obtain ⟨h2, h3, h4, h5⟩ := h1
  by_cases h0 : t < 0
  · have H6 := hide (h4 h0)
    clear h4 h5 hc
    go_enter Tryd.func13, Tryd.ntmps13
    go_upto_region 2 with fail
    rw [← ht]
    clear ht
    go_wp2
    go_ret
    exact ⟨by rw [← unhide H6]; rfl, rfl⟩
  · have H6 := hide (h5 (by omega))
    clear h4 h5 hc
    go_enter Tryd.func13, Tryd.ntmps13
    go_upto_region 2 with fail
    rw [← ht]
    clear ht
    go_wp2
    go_ret
    exact ⟨by rw [← unhide H6]; rfl, rfl⟩
end Go.Proofs.YtlodfcdckeiafabDoor
