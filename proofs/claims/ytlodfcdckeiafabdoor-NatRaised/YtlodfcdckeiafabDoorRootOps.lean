/- nat.Root, of any text and number. -/
import Derived.Test.YtlodfcdckeiafabDoorRoot
import Derived.Test.YtlodfcdckeiafabDoorRootText
namespace Go.Proofs.YtlodfcdckeiafabDoor
open Go.RowKit

theorem told_root (m n E : Nat) (h : m < 10 ^ E) (hn : 1 ≤ n) : Cub.rootOf m n < 10 ^ E := Nat.lt_of_le_of_lt (Cub.root_self_le m n hn) h

set_option maxRecDepth 100000 in
set_option maxHeartbeats 800000 in
theorem natRoot_any (s : ByteArray) (n : Int) (w : World) (hs : s.size ≤ maxLen) (hn1 : -9223372036854775808 ≤ n) (hn2 : n ≤ 9223372036854775807) (htab : Tab w) :
    Calls Tryd.prog 15 #[.string s, .int .i64 n] w fun e w' => e = .returned (.tuple #[.string ⟨(rootText s n).toArray⟩, .int .i64 (rootErr s n)]) ∧ Below w.heap.size w w' := by
  have HR := hide (fun W => right_any s W hs)
  have HT := hide htab
  clear htab
  unfold rootText rootErr
  cases hb : Cub.rightB s.data.toList with
  | false =>
    rw [hb] at HR
    simp only [Bool.false_eq_true, if_false]
    clear hb
    go_enter Tryd.func15, Tryd.ntmps15
    go_wp2_with (go_at_call 24; refine (unhide HR _).mono ?_; rintro e w' ⟨rfl, rfl⟩)
    go_ret2
    exact ⟨rfl, Below.refl _ _⟩
  | true =>
    have HA := hide hb
    rw [hb] at HR
    simp only [if_true]
    clear hb
    by_cases hr : 1 ≤ n ∧ n ≤ 4096
    · rw [if_pos hr, if_pos hr]
      obtain ⟨k, rfl⟩ := Int.eq_ofNat_of_zero_le (show 0 ≤ n by omega)
      have hk : k ≤ 4096 ∧ 1 ≤ k := by omega
      rw [show ((k : Int)).toNat = k from rfl]
      have H62 := hide (fun W => bigN s W (unhide HA))
      have H65 := hide (fun W x (hx : IsBig W x (val s)) => root_any x (val s) k 600 W hx (Nat.le_refl _) (by decide) (right_val (unhide HA)) hk.2 hk.1)
      have hS := told_root (val s) k 600 (right_val (unhide HA)) hk.2
      have H51 := hide (fun W v (h : IsBig W v (Cub.rootOf (val s) k)) (h2 : Tab W) => tell_any v (Cub.rootOf (val s) k) 67 W h (by decide) (Nat.lt_of_lt_of_le hS (pow_nine 600 67 (by decide))) h2)
      rw [toldText_pos _ hS, toldErr_pos _ hS] at H51
      clear hS
      generalize Cub.rootOf (val s) k = V at *
      go_enter Tryd.func15, Tryd.ntmps15
      go_wp2_with (first
        | (go_at_call 24; refine (unhide HR _).mono ?_; rintro e w' ⟨rfl, hw⟩; subst w')
        | (go_at_call 30; refine (unhide H62 _).mono ?_; rintro e w1 ⟨xa, xn, xc, rfl, hx, hb1⟩; have HX := hide hx; clear hx)
        | (go_at_call 32; refine (unhide H65 _ _ (unhide HX)).mono ?_; rintro e w2 ⟨ya, yn, yc, rfl, hy, hc2⟩; have HY := hide hy; clear hy; have hb2 := hb1.trans (hc2.mono hb1.size))
        | (go_at_call 29; refine (unhide H51 _ _ (unhide HY) ((unhide HT).later hb2)).mono ?_; rintro e w3 ⟨rfl, hc3⟩; have hb3 := hb2.trans (hc3.mono hb2.size)))
      go_ret2
      exact ⟨rfl, hb3⟩
    · rw [if_neg hr, if_neg hr]
      by_cases h0 : n < 1
      · go_enter Tryd.func15, Tryd.ntmps15
        go_wp2_with (go_at_call 24; refine (unhide HR _).mono ?_; rintro e w' ⟨rfl, rfl⟩)
        go_ret2
        exact ⟨rfl, Below.refl _ _⟩
      · have h4 : 4096 < n := by omega
        go_enter Tryd.func15, Tryd.ntmps15
        go_wp2_with (go_at_call 24; refine (unhide HR _).mono ?_; rintro e w' ⟨rfl, rfl⟩)
        go_ret2
        exact ⟨rfl, Below.refl _ _⟩
end Go.Proofs.YtlodfcdckeiafabDoor
