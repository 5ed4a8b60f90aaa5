/- nat.Pow, of any text and number. -/
import Derived.Test.YtoinadnpdbaamaaGreatDoorPow
import Derived.Test.YtoinadnpdbaamaaGreatDoorNTell
namespace Go.Proofs.YtoinadnpdbaamaaGreatDoor
open Go.RowKit

theorem right_dig2 {s : ByteArray} (h : Cub.rightB s.data.toList = true) : Cub.digs s.data.toList ∧ s.size ≤ 600 := right_digs h
theorem toldErr_pos (n : Nat) (h : n < 10 ^ 600) : toldErr n = 0 := by unfold toldErr; rw [if_pos h]
theorem toldErr_neg (n : Nat) (h : ¬ n < 10 ^ 600) : toldErr n = 7 := by unfold toldErr; rw [if_neg h]
theorem bigN (s : ByteArray) (w : World) (h : Cub.rightB s.data.toList = true) :
    Calls Tryz.prog 71 #[.string s] w fun e w' => ∃ a n c, e = .returned (.agg #[.slice a n c]) ∧ IsBig w' (.agg #[.slice a n c]) (val s) ∧ Below w.heap.size w w' := by
  refine (bigText_any s w (Nat.le_trans (right_dig2 h).2 (by decide)) (right_dig2 h).1).mono ?_
  rintro e w' ⟨v, rfl, hv, hb⟩
  obtain ⟨a, n, c, rfl⟩ := hv.shape
  exact ⟨a, n, c, rfl, hv, hb⟩
def powText (s : ByteArray) (n : Int) : List UInt8 := if Cub.rightB s.data.toList = true then (if 0 ≤ n ∧ n ≤ 4096 then toldText (val s ^ n.toNat) else []) else []
def powErr (s : ByteArray) (n : Int) : Int := if Cub.rightB s.data.toList = true then (if 0 ≤ n ∧ n ≤ 4096 then toldErr (val s ^ n.toNat) else 1) else 3

theorem pow_small {s : ByteArray} (h : Cub.rightB s.data.toList = true) (k e : Nat) (he : s.size * k < e) : val s ^ k < 10 ^ e := by
  obtain ⟨h1, h2⟩ := (Cub.rightB_iff _).1 h
  have h3 := Cub.dval_lt h1.1
  rw [list_len] at h3
  have h4 : val s ^ k ≤ (10 ^ s.size) ^ k := Nat.pow_le_pow_left (Nat.le_of_lt h3) k
  rw [← Nat.pow_mul] at h4
  exact Nat.lt_of_le_of_lt h4 (Nat.pow_lt_pow_right (by decide) he)
theorem pow_large {s : ByteArray} (h : Cub.rightB s.data.toList = true) (k e : Nat) (he : e ≤ (s.size - 1) * k) (h0 : 0 < e) : ¬ val s ^ k < 10 ^ e := by
  obtain ⟨h1, h2⟩ := (Cub.rightB_iff _).1 h
  have h5 : 2 ≤ s.data.toList.length := by
    rw [list_len]
    apply Decidable.byContradiction
    intro hc
    rw [show s.size - 1 = 0 by omega, Nat.zero_mul] at he
    omega
  have h3 := Cub.isNat_pos h1 h5
  rw [list_len] at h3
  have h4 : (10 ^ (s.size - 1)) ^ k ≤ val s ^ k := Nat.pow_le_pow_left h3 k
  rw [← Nat.pow_mul] at h4
  have h6 : 10 ^ e ≤ 10 ^ ((s.size - 1) * k) := Nat.pow_le_pow_right (by decide) he
  omega
theorem right_pos {s : ByteArray} (h : Cub.rightB s.data.toList = true) : 1 ≤ s.size ∧ s.size ≤ 600 := by
  refine ⟨?_, (right_dig2 h).2⟩
  obtain ⟨h1, h2⟩ := (Cub.rightB_iff _).1 h
  rw [← list_len]
  have := Cub.dec_ne_nil (Cub.dval s.data.toList)
  rw [Cub.dec_dval _ _ rfl h1] at this
  exact List.length_pos_iff.2 this

set_option maxRecDepth 100000 in
set_option maxHeartbeats 800000 in
theorem natPow_any (s : ByteArray) (n : Int) (w : World) (hs : s.size ≤ maxLen) (hn1 : -9223372036854775808 ≤ n) (hn2 : n ≤ 9223372036854775807) (htab : Tab w) :
    Calls Tryz.prog 102 #[.string s, .int .i64 n] w fun e w' => e = .returned (.tuple #[.string ⟨(powText s n).toArray⟩, .int .i64 (powErr s n)]) ∧ Below w.heap.size w w' := by
  have HR := hide (fun W => right_any s W hs)
  have HT := hide htab
  clear htab
  unfold powText powErr
  cases hb : Cub.rightB s.data.toList with
  | false =>
    rw [hb] at HR
    simp only [Bool.false_eq_true, if_false]
    clear hb
    go_enter Tryz.func102, Tryz.ntmps102
    go_wp2_with (go_at_call 69; refine (unhide HR _).mono ?_; rintro e w' ⟨rfl, rfl⟩)
    go_ret2
    exact ⟨rfl, Below.refl _ _⟩
  | true =>
    have HA := hide hb
    rw [hb] at HR
    simp only [if_true]
    clear hb
    by_cases hr : 0 ≤ n ∧ n ≤ 4096
    · rw [if_pos hr, if_pos hr]
      obtain ⟨k, rfl⟩ := Int.eq_ofNat_of_zero_le hr.1
      have hk : k ≤ 4096 := by omega
      rw [show ((k : Int)).toNat = k from rfl]
      obtain ⟨hp1, hp2⟩ := right_pos (unhide HA)
      obtain ⟨p, hp⟩ : ∃ p, p = (s.size - 1) * k := ⟨_, rfl⟩
      have hpm : ((s.size : Int) - 1) * (k : Int) = (p : Int) := by
        rw [hp, Int.natCast_mul, Int.natCast_sub hp1]; rfl
      have hpb : p ≤ 600 * 4096 := by rw [hp]; exact Nat.mul_le_mul (by omega) hk
      have hsk : s.size * k = p + k := by
        rw [hp, ← Nat.succ_mul]; congr 1; omega
      by_cases h6 : 600 ≤ p
      · have HL := hide (pow_large (unhide HA) k 600 (by omega) (by decide))
        clear hsk hp
        go_enter Tryz.func102, Tryz.ntmps102
        go_wp2_with (go_at_call 69; refine (unhide HR _).mono ?_; rintro e w' ⟨rfl, rfl⟩)
        go_ret2
        exact ⟨by rw [toldText_neg _ (unhide HL), toldErr_neg _ (unhide HL)]; rfl, Below.refl _ _⟩
      · have hP := Nat.lt_of_lt_of_le (pow_small (unhide HA) k 4700 (by omega)) (pow_nine 4700 523 (by decide))
        have hV := Nat.lt_of_lt_of_le (right_val (unhide HA)) (pow_nine 600 523 (by decide))
        have H62 := hide (fun W => bigN s W (unhide HA))
        have H63 := hide (fun W x (hx : IsBig W x (val s)) => bigPow_any x (val s) k 523 W hx (by omega) (by decide) (by decide) hP hV)
        have H51 := hide (fun W v (h : IsBig W v (val s ^ k)) (h2 : Tab W) => tell_any v (val s ^ k) 523 W h (by decide) hP h2)
        clear hP hV hsk hp
        generalize val s ^ k = V at *
        go_enter Tryz.func102, Tryz.ntmps102
        go_wp2_with (first
          | (go_at_call 69; refine (unhide HR _).mono ?_; rintro e w' ⟨rfl, hw⟩; subst w')
          | (go_at_call 71; refine (unhide H62 _).mono ?_; rintro e w1 ⟨xa, xn, xc, rfl, hx, hb1⟩; have HX := hide hx; clear hx)
          | (go_at_call 150; refine (unhide H63 _ _ (unhide HX)).mono ?_; rintro e w2 ⟨ya, yn, yc, rfl, hy, hc2⟩; have HY := hide hy; clear hy; have hb2 := hb1.trans (hc2.mono hb1.size))
          | (go_at_call 149; refine (unhide H51 _ _ (unhide HY) ((unhide HT).later hb2)).mono ?_; rintro e w3 ⟨rfl, hc3⟩; have hb3 := hb2.trans (hc3.mono hb2.size)))
        go_ret2
        exact ⟨rfl, hb3⟩
    · rw [if_neg hr, if_neg hr]
      by_cases h0 : n < 0
      · go_enter Tryz.func102, Tryz.ntmps102
        go_wp2_with (go_at_call 69; refine (unhide HR _).mono ?_; rintro e w' ⟨rfl, rfl⟩)
        go_ret2
        exact ⟨rfl, Below.refl _ _⟩
      · have h4 : 4096 < n := by omega
        go_enter Tryz.func102, Tryz.ntmps102
        go_wp2_with (go_at_call 69; refine (unhide HR _).mono ?_; rintro e w' ⟨rfl, rfl⟩)
        go_ret2
        exact ⟨rfl, Below.refl _ _⟩
end Go.Proofs.YtoinadnpdbaamaaGreatDoor
