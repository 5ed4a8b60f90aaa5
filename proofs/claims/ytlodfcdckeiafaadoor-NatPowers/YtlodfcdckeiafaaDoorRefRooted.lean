/- The document's own Rooted, of any text and number. -/
import Derived.Test.YtlodfcdckeiafaaDoorRefRoot2
import Derived.Test.YtlodfcdckeiafaaDoorRootText
namespace Go.Proofs.YtlodfcdckeiafaaDoor
open Go.RowKit

set_option maxRecDepth 100000 in
set_option maxHeartbeats 800000 in
theorem refRooted_any (s : ByteArray) (n : Int) (w : World) (hs : s.size ≤ maxLen) (hn1 : -9223372036854775808 ≤ n) (hn2 : n ≤ 9223372036854775807) :
    Calls Tryd.prog 32 #[.string s, .int .i64 n] w fun e w' => e = .returned (.tuple #[.string ⟨(rootText s n).toArray⟩, .int .i64 (rootErr s n)]) ∧ Below w.heap.size w w' := by
  have HR := hide (fun W => refRight_any s W hs)
  unfold rootText rootErr
  cases hb : Cub.rightB s.data.toList with
  | false =>
    rw [hb] at HR
    simp only [Bool.false_eq_true, if_false]
    clear hb
    go_enter Tryd.func32, Tryd.ntmps32
    go_wp2_with (go_at_call 12; refine (unhide HR _).mono ?_; rintro e w' ⟨rfl, rfl⟩)
    go_ret2
    exact ⟨rfl, Below.refl _ _⟩
  | true =>
    have HA := hide hb
    rw [hb] at HR
    simp only [if_true]
    clear hb
    by_cases hr : 1 ≤ n ∧ n ≤ 4096
    · rw [if_pos hr, if_pos hr]
      obtain ⟨k, rfl⟩ := Int.eq_ofNat_of_zero_le (show 0 ≤ n by omega)
      have hk : k ≤ 4096 ∧ 1 ≤ k := by omega
      rw [show ((k : Int)).toNat = k from rfl]
      have H66 := hide (fun W => refRoot_any s k W (unhide HA) hk.2 hk.1)
      have e1 : Value.string ⟨(Lib.decDigits (Cub.rootOf (val s) k)).toArray⟩ = .string (nb (Cub.rootOf (val s) k)) := rfl
      rw [e1]
      clear e1
      generalize nb (Cub.rootOf (val s) k) = T at *
      go_enter Tryd.func32, Tryd.ntmps32
      go_wp2_with (first
        | (go_at_call 12; refine (unhide HR _).mono ?_; rintro e w' ⟨rfl, hw⟩; subst w')
        | (go_at_call 66; refine (unhide H66 _).mono ?_; rintro e w1 ⟨rfl, hb1⟩))
      go_ret2
      exact ⟨rfl, hb1⟩
    · rw [if_neg hr, if_neg hr]
      by_cases h0 : n < 1
      · go_enter Tryd.func32, Tryd.ntmps32
        go_wp2_with (go_at_call 12; refine (unhide HR _).mono ?_; rintro e w' ⟨rfl, rfl⟩)
        go_ret2
        exact ⟨rfl, Below.refl _ _⟩
      · have h4 : 4096 < n := by omega
        go_enter Tryd.func32, Tryd.ntmps32
        go_wp2_with (go_at_call 12; refine (unhide HR _).mono ?_; rintro e w' ⟨rfl, rfl⟩)
        go_ret2
        exact ⟨rfl, Below.refl _ _⟩
end Go.Proofs.YtlodfcdckeiafaaDoor
