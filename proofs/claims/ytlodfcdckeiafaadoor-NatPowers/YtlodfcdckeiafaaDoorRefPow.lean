/- The document's own Pow, of any text and number. -/
import Derived.Test.YtlodfcdckeiafaaDoorPowOps
import Derived.Test.YtlodfcdckeiafaaDoorRefPower
namespace Go.Proofs.YtlodfcdckeiafaaDoor
open Go.RowKit

theorem right_nb {s : ByteArray} (h : Cub.rightB s.data.toList = true) : s = nb (val s) := by
  have e : s.data.toList = (nb (val s)).data.toList := by rw [nb_list]; exact (Cub.dec_dval _ _ rfl ((Cub.rightB_iff _).1 h).1).symm
  exact ByteArray.ext (Array.ext' e)

set_option maxRecDepth 100000 in
set_option maxHeartbeats 800000 in
theorem refPow_any (s : ByteArray) (n : Int) (w : World) (hs : s.size ≤ maxLen) (hn1 : -9223372036854775808 ≤ n) (hn2 : n ≤ 9223372036854775807) :
    Calls Tryd.prog 30 #[.string s, .int .i64 n] w fun e w' => e = .returned (.tuple #[.string ⟨(powText s n).toArray⟩, .int .i64 (powErr s n)]) ∧ Below w.heap.size w w' := by
  have HR := hide (fun W => refRight_any s W hs)
  unfold powText powErr
  cases hb : Cub.rightB s.data.toList with
  | false =>
    rw [hb] at HR
    simp only [Bool.false_eq_true, if_false]
    clear hb
    go_enter Tryd.func30, Tryd.ntmps30
    go_wp2_with (go_at_call 12; refine (unhide HR _).mono ?_; rintro e w' ⟨rfl, rfl⟩)
    go_ret2
    exact ⟨rfl, Below.refl _ _⟩
  | true =>
    have HA := hide hb
    rw [hb] at HR
    simp only [if_true]
    clear hb
    by_cases hr : 0 ≤ n ∧ n ≤ 4096
    · rw [if_pos hr, if_pos hr]
      obtain ⟨k, rfl⟩ := Int.eq_ofNat_of_zero_le hr.1
      have hk : k ≤ 4096 := by omega
      rw [show ((k : Int)).toNat = k from rfl]
      obtain ⟨hp1, hp2⟩ := right_pos (unhide HA)
      obtain ⟨p, hp⟩ : ∃ p, p = (s.size - 1) * k := ⟨_, rfl⟩
      have hpm : ((s.size : Int) - 1) * (k : Int) = (p : Int) := by
        rw [hp, Int.natCast_mul, Int.natCast_sub hp1]; rfl
      have hpb : p ≤ 600 * 4096 := by rw [hp]; exact Nat.mul_le_mul (by omega) hk
      have hsk : s.size * k = p + k := by
        rw [hp, ← Nat.succ_mul]; congr 1; omega
      have hone : s.size ≤ 1 → p = 0 := fun h => by rw [hp, show s.size - 1 = 0 by omega, Nat.zero_mul]
      by_cases h6 : 600 < p
      · have HL := hide (pow_large (unhide HA) k 600 (by omega) (by decide))
        have h1 : 1 < s.size := by
          apply Decidable.byContradiction
          intro hc
          have := hone (by omega)
          omega
        clear hsk hp hone
        go_enter Tryd.func30, Tryd.ntmps30
        go_wp2_with (go_at_call 12; refine (unhide HR _).mono ?_; rintro e w' ⟨rfl, rfl⟩)
        go_ret2
        exact ⟨by rw [toldText_neg _ (unhide HL), toldErr_neg _ (unhide HL)]; rfl, Below.refl _ _⟩
      · have hP := pow_small (unhide HA) k 4700 (by omega)
        have H64 := hide (fun W => by
          have h := refPower_any (val s) k 4700 W (by omega) (by decide) (by decide) hP
          rw [← right_nb (unhide HA)] at h
          exact h)
        have H47 := hide (fun W => small_any (val s ^ k) W (by
          rw [← Lib.decDigits_length]
          exact Nat.le_trans ((Cub.dec_len_lt _ 4700 (by decide)).2 hP) (by decide)))
        clear hP hsk hp hone
        have e1 : Value.string ⟨(Lib.decDigits (val s ^ k)).toArray⟩ = .string (nb (val s ^ k)) := rfl
        rw [e1] at H47
        clear e1
        generalize val s ^ k = V at *
        generalize nb V = T at *
        by_cases h1 : 1 < s.size
        all_goals
          go_enter Tryd.func30, Tryd.ntmps30
          go_wp2_with (first
            | (go_at_call 12; refine (unhide HR _).mono ?_; rintro e w' ⟨rfl, hw⟩; subst w')
            | (go_at_call 64; refine (unhide H64 _).mono ?_; rintro e w1 ⟨rfl, hb1⟩)
            | (go_at_call 47; refine (unhide H47 _).mono ?_; rintro e w2 ⟨rfl, hw⟩; subst w2))
          go_ret2
          exact ⟨rfl, hb1⟩
    · rw [if_neg hr, if_neg hr]
      by_cases h0 : n < 0
      · go_enter Tryd.func30, Tryd.ntmps30
        go_wp2_with (go_at_call 12; refine (unhide HR _).mono ?_; rintro e w' ⟨rfl, rfl⟩)
        go_ret2
        exact ⟨rfl, Below.refl _ _⟩
      · have h4 : 4096 < n := by omega
        go_enter Tryd.func30, Tryd.ntmps30
        go_wp2_with (go_at_call 12; refine (unhide HR _).mono ?_; rintro e w' ⟨rfl, rfl⟩)
        go_ret2
        exact ⟨rfl, Below.refl _ _⟩
end Go.Proofs.YtlodfcdckeiafaaDoor
