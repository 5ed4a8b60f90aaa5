/- RatBack answers true, at every input. -/
import Derived.Test.YtifalmdoligblaaGreatDoorWhole
import Derived.Test.YtifalmdoligblaaGreatDoorBackTx
import Derived.Test.YtifalmdoligblaaGreatDoorBackWalk
namespace Cub
theorem near_two (N D S : Nat) (hD : 0 < D) (hS : S = if D < N % D + N % D ∨ (N % D + N % D = D ∧ N / D % 2 = 1) then N / D + 1 else N / D) : 2 * N ≤ 2 * (S * D) + D ∧ 2 * (S * D) ≤ 2 * N + D := by
  have h1 := Nat.div_add_mod N D
  have h2 := Nat.mod_lt N hD
  rw [Nat.mul_comm] at h1
  by_cases h : D < N % D + N % D ∨ (N % D + N % D = D ∧ N / D % 2 = 1)
  · rw [if_pos h] at hS
    rw [hS, Nat.add_mul, Nat.one_mul]
    omega
  · rw [if_neg h] at hS
    rw [hS]
    omega
theorem valQ_neg (b : Bool) (n d : Nat) : valQ (!b) n d = -valQ b n d := by
  unfold valQ
  rw [sg_neg, Rat.intCast_neg, Rat.div_def, Rat.div_def, Rat.neg_mul]
theorem abs_val {x : Rat} {b : Bool} {m D : Nat} (hD : 0 < D) (h : x = valQ b m D) : valQ false x.num.natAbs x.den = valQ false m D := by
  have h1 := (low_of x).2.trans h
  have h2 := (valQ_eq x.den_pos hD).1 h1
  have h3 := congrArg Int.natAbs h2
  rw [Int.natAbs_mul, Int.natAbs_mul, sg_abs, sg_abs] at h3
  simp only [Int.natAbs_natCast] at h3
  rw [valQ_eq x.den_pos hD]
  show ((x.num.natAbs : Nat) : Int) * _ = (m : Int) * _
  exact_mod_cast h3
theorem off_val (b : Bool) (n d S P : Nat) (hd : 0 < d) (hP : 0 < P) : ∃ c m, valQ b n d + -valQ b S P = valQ c m (d * P) ∧ ((m = n * P - S * d ∧ S * d ≤ n * P) ∨ (m = S * d - n * P ∧ n * P ≤ S * d)) := by
  rcases Nat.le_total (S * d) (n * P) with h | h
  · refine ⟨b, n * P - S * d, ?_, Or.inl ⟨rfl, h⟩⟩
    rw [← valQ_neg]
    refine (valQ_add hd hP ?_).symm
    rw [sg_neg]
    cases b <;> simp [sg] <;> omega
  · refine ⟨!b, S * d - n * P, ?_, Or.inr ⟨rfl, h⟩⟩
    rw [← valQ_neg]
    refine (valQ_add hd hP ?_).symm
    rw [sg_neg, sg_neg]
    cases b <;> simp [sg] <;> omega
theorem val_mul2 (m D k : Nat) : valQ false m D * valQ false k 1 = valQ false (m * k) D := by
  unfold valQ sg
  simp only [Bool.false_eq_true, if_false]
  rw [Rat.div_def, Rat.div_def, Rat.div_def]
  push_cast
  grind
theorem half_step (x y : Rat) (S P : Nat) (hP : 0 < P) (h1 : 2 * (x.num.natAbs * P) ≤ 2 * (S * x.den) + x.den) (h2 : 2 * (S * x.den) ≤ 2 * (x.num.natAbs * P) + x.den) (hy : y = valQ (decide (x < 0)) S P) :
    ¬ (1 : Rat) < valQ false (x + -y).num.natAbs (x + -y).den * valQ false (2 * P) 1 := by
  have hx := (low_of x).2
  have hd := x.den_pos
  obtain ⟨n, hn⟩ : ∃ n, n = x.num.natAbs := ⟨_, rfl⟩
  obtain ⟨d, hde⟩ : ∃ d, d = x.den := ⟨_, rfl⟩
  obtain ⟨b, hb⟩ : ∃ b, b = decide (x < 0) := ⟨_, rfl⟩
  rw [← hn, ← hde] at h1 h2
  rw [← hb] at hy
  rw [← hn, ← hde, ← hb] at hx
  rw [← hde] at hd
  obtain ⟨c, m, e, hm⟩ := off_val b n d S P hd hP
  have hDP := Nat.mul_pos hd hP
  have e2 : x + -y = valQ c m (d * P) := by rw [hy, ← e, hx]
  rw [abs_val hDP e2, val_mul2 _ _ _, show (1 : Rat) = valQ false 1 1 by decide +kernel, valQ_lt (by decide) hDP]
  simp only [sg, Bool.false_eq_true, if_false]
  have h3 : m * 2 ≤ d := by omega
  have h4 : m * (2 * P) ≤ d * P := by rw [← Nat.mul_assoc]; exact Nat.mul_le_mul_right P h3
  intro h
  have h5 : d * P < m * (2 * P) := by
    have : ((1 : Nat) : Int) * ((d * P : Nat) : Int) < ((m * (2 * P) : Nat) : Int) * ((1 : Nat) : Int) := h
    omega
  omega
theorem floor_le (x : Rat) (F : Nat) (hF : F = if decide (x < 0) = true ∧ x.num.natAbs % x.den ≠ 0 then x.num.natAbs / x.den + 1 else x.num.natAbs / x.den) : ¬ x < valQ (decide (x < 0)) F 1 ∧ (F ≤ x.num.natAbs) := by
  have hx := (low_of x)
  have hd := x.den_pos
  obtain ⟨n, hn⟩ : ∃ n, n = x.num.natAbs := ⟨_, rfl⟩
  obtain ⟨d, hde⟩ : ∃ d, d = x.den := ⟨_, rfl⟩
  obtain ⟨b, hb⟩ : ∃ b, b = decide (x < 0) := ⟨_, rfl⟩
  rw [← hn, ← hde, ← hb] at hF hx
  rw [← hde] at hd
  rw [← hb, ← hn]
  have q1 := Nat.div_add_mod n d
  have q2 := Nat.mod_lt n hd
  have q3 := Nat.div_le_self n d
  have q4 : F ≤ n := by
    by_cases h : b = true ∧ n % d ≠ 0
    · rw [if_pos h] at hF
      have hd2 : 2 ≤ d := by
        rcases Nat.lt_or_ge d 2 with h0 | h0
        · obtain rfl : d = 1 := by omega
          exact absurd (Nat.mod_one n) h.2
        · exact h0
      have hn0 : 0 < n := Nat.pos_of_ne_zero (hx.1.sign h.1)
      have : n / d < n := Nat.div_lt_self hn0 hd2
      omega
    · rw [if_neg h] at hF; omega
  refine ⟨?_, q4⟩
  rw [← hx.2, valQ_lt hd (by decide)]
  intro h
  cases b with
  | false =>
    rw [if_neg (by simp)] at hF
    have h' : (n : Int) * 1 < (F : Int) * (d : Int) := h
    have : n < F * d := by exact_mod_cast (by omega : (n : Int) < ((F * d : Nat) : Int))
    rw [hF, Nat.mul_comm] at this
    omega
  | true =>
    have h' : -(n : Int) * 1 < -(F : Int) * (d : Int) := h
    have h'' : ((F * d : Nat) : Int) < (n : Int) := by
      have e : -(F : Int) * (d : Int) = -((F * d : Nat) : Int) := by rw [Int.neg_mul]; norm_cast
      omega
    have h3 : F * d < n := by omega
    by_cases hr : n % d ≠ 0
    · rw [if_pos ⟨rfl, hr⟩] at hF
      rw [hF, Nat.add_mul, Nat.one_mul, Nat.mul_comm] at h3
      omega
    · rw [if_neg (fun hh => hr hh.2)] at hF
      rw [hF, Nat.mul_comm] at h3
      omega
end Cub

namespace Go.Proofs.YtifalmdoligblaaGreatDoor
open Go.RowKit

theorem places_of (n : Int) : ∃ p : Nat, p ≤ 199 ∧ wrap64 ((IntKind.u64.wrap n).tmod 200) = (p : Int) := by
  have h0 : 0 ≤ IntKind.u64.wrap n := by
    unfold IntKind.wrap
    simp [IntKind.bits, IntKind.signed]
    omega
  obtain ⟨v, hv⟩ : ∃ v, v = IntKind.u64.wrap n := ⟨_, rfl⟩
  rw [← hv] at h0 ⊢
  have e : v.tmod 200 = v % 200 := Int.tmod_eq_emod_of_nonneg h0
  rw [e]
  refine ⟨(v % 200).toNat, by omega, ?_⟩
  unfold wrap64
  omega
theorem fx_one : fx 1 = .agg #[.bool false, .string ⟨#[49]⟩, .string ⟨#[49]⟩] := by
  unfold fx
  rw [show decide ((1 : Rat) < 0) = false by decide +kernel, show (1 : Rat).num.natAbs = 1 by decide +kernel, show (1 : Rat).den = 1 by decide +kernel, tx_one]
theorem fx_two (p : Nat) : fx (Cub.valQ false (2 * 10 ^ p) 1) = .agg #[.bool false, .string (⟨#[50]⟩ ++ ⟨(List.replicate p 48).toArray⟩), .string ⟨#[49]⟩] := by
  have h2 : tx 2 = ⟨#[50]⟩ := by
    unfold tx
    rw [Lib.decDigits]
    simp
  rw [fx_whole, Bool.false_and, ← tx_shift 2 p (by decide), h2, tx_one]
theorem abs_fx (z : Rat) : (Value.agg #[.bool false, .string (tx z.num.natAbs), .string (tx z.den)]) = fx (Cub.valQ false z.num.natAbs z.den) := fx_of ⟨z.den_pos, (Cub.low_of z).1.cop, fun h => by cases h⟩
theorem bd_abs {d : Nat} {z : Rat} (h : Bd d z) : Bd d (Cub.valQ false z.num.natAbs z.den) := bd_val false z.den_pos h.1 h.2
theorem cmp_le {x y : Rat} (h : ¬ y < x) : Cub.cmpQ x y ≤ 0 := by
  unfold Cub.cmpQ
  rw [if_neg h]
  split <;> decide
theorem one_lt (E : Nat) (h : 0 < E) : 1 < 10 ^ E := Nat.one_lt_pow (by omega) (by decide)
theorem bd_one (E : Nat) (h : 0 < E) : Bd E 1 := ⟨by rw [show (1 : Rat).num.natAbs = 1 by decide +kernel]; exact one_lt E h, by rw [show (1 : Rat).den = 1 by decide +kernel]; exact one_lt E h⟩
theorem bd_two (E p : Nat) (h : p + 1 ≤ E) : Bd E (Cub.valQ false (2 * 10 ^ p) 1) := by
  refine bd_val false (by decide) ?_ (one_lt E (by omega))
  have h1 : 2 * 10 ^ p < 10 ^ (p + 1) := by
    rw [Nat.pow_succ, Nat.mul_comm (10 ^ p)]
    exact Nat.mul_lt_mul_of_pos_right (by decide) (Nat.pow_pos (by decide))
  exact Nat.lt_of_lt_of_le h1 (Nat.pow_le_pow_right (by decide) h)
theorem fx_parts (z : Rat) : fx z = .agg #[.bool (decide (z < 0)), .string (tx z.num.natAbs), .string (tx z.den)] := rfl

theorem back_any (n1 d1 : ByteArray) (x : Rat) (n : Int) (w : World) (htab : Tab w) (h : IsR n1 d1 x) :
    Calls Tryz.prog 14 #[.agg #[.string n1, .string d1], .int .i64 n] w fun r w' => r = .returned (.bool true) ∧ Below w.heap.size w w' := by
  obtain ⟨p, hp, hpl⟩ := places_of n
  have hr := h.rt
  have hz : n1.size ≤ 1000000 ∧ d1.size ≤ 1000000 := by have := h.size; omega
  have h24 : ∀ W, Calls Tryz.prog 24 #[.agg #[.string n1, .string d1]] W fun r w' => r = .returned (.tuple #[.string (printT true n1 d1), .int .i64 0]) ∧ Below W.heap.size W w' := fun W =>
    print24 n1 d1 true W (fun _ => hz) (fun W => ratRight_any n1 d1 true W (reads_yes ⟨_, _, _, hr⟩))
  have h22 := fun W (hb : Below w.heap.size w W) => parse_print n1 d1 x h W (htab.later hb)
  have h26 : ∀ W, Below w.heap.size w W → Calls Tryz.prog 26 #[.agg #[.string n1, .string d1], .int .i64 (p : Int)] W fun r w' => r = .returned (.tuple #[.string (digitsT x p), .int .i64 (digitsE x p)]) ∧ Below W.heap.size W w' := fun W hb => rdigits_ok n1 d1 x p W h (by omega) (htab.later hb)
  have h51 : ∀ W, Below w.heap.size w W → Calls Tryz.prog 51 #[.agg #[.string n1, .string d1], .int .i64 (p : Int)] W fun r w' => r = .returned (.tuple #[.agg #[.string (numT (roundQ x p)), .string (denT (roundQ x p))], .int .i64 (errT (roundQ x p))]) ∧ Below W.heap.size W w' := fun W hb => rround_ok n1 d1 x p W h (by omega) (by omega) (htab.later hb)
  by_cases hA : digitsE x p = 7 ∨ (digitsE x p = 0 ∧ errT (roundQ x p) = 7)
  · exact back_large n1 d1 _ _ _ _ n p _ _ w htab hpl (ref18_yes h) h24 h22 h26 h51 hA
  · have hl : (tx (stepsN x p)).size ≤ 600 := by
      rcases Nat.lt_or_ge 600 (tx (stepsN x p)).size with h0 | h0
      · exact absurd (Or.inl (by unfold digitsE; rw [if_pos h0])) hA
      · exact h0
    have hde : digitsE x p = 0 := by unfold digitsE; rw [if_neg (by omega)]
    have hdt : digitsT x p = digS x p := by unfold digitsT; rw [if_neg (by omega)]
    have hsm : Small (roundQ x p) := by
      refine Classical.byContradiction fun h0 => hA (Or.inr ⟨hde, ?_⟩)
      unfold errT; rw [if_neg h0]
    have hye : errT (roundQ x p) = 0 := by unfold errT; rw [if_pos hsm]
    rw [hde, hdt] at h26
    rw [hye] at h51
    have hy : IsR (numT (roundQ x p)) (denT (roundQ x p)) (roundQ x p) := ⟨hsm, rfl, rfl⟩
    obtain ⟨y, hyq⟩ : ∃ y, y = roundQ x p := ⟨_, rfl⟩
    have h22b := fun W (hb : Below w.heap.size w W) => parse_digits x p hp hl W (htab.later hb)
    rw [hye] at h22b
    rw [← hyq] at h51 hy h22b
    have bx := h.bd
    have by' := hy.bd
    have bo := bd_add bx (bd_neg by')
    obtain ⟨D, hD⟩ : ∃ D : Nat, D = 600 + 600 + 1 := ⟨_, rfl⟩
    rw [← hD] at bo
    have ba := bd_abs bo
    have b2 := bd_two D p (by omega)
    have bm := bd_mul ba b2
    have b1 := bd_one (D + D) (by omega)
    have hst : stepsN x p = nearN (x.num.natAbs * 10 ^ p) x.den := by
      unfold stepsN rN rD
      rw [if_neg (by omega), if_neg (by omega), Int.toNat_natCast]
    have hnear := Cub.near_two (x.num.natAbs * 10 ^ p) x.den (stepsN x p) x.den_pos (by rw [hst]; rfl)
    have hhalf := Cub.half_step x y (stepsN x p) (10 ^ p) (Nat.pow_pos (by decide)) hnear.1 hnear.2 (by rw [hyq]; exact round_val x p)
    have hfl := Cub.floor_le x (floorN (decide (x < 0)) x.num.natAbs x.den) rfl
    have hfq : ¬ x < floorQ x := hfl.1
    have hfd : (floorQ x).den = 1 ∧ (floorQ x).num.natAbs = floorN (decide (x < 0)) x.num.natAbs x.den := by
      have hlow := Cub.low_is (b := decide (x < 0) && decide (floorN (decide (x < 0)) x.num.natAbs x.den ≠ 0)) (n := floorN (decide (x < 0)) x.num.natAbs x.den) (d := 1) ⟨by decide, Nat.gcd_one_right _, fun hh => by simp at hh; exact hh.2⟩
      have e : Cub.valQ (decide (x < 0) && decide (floorN (decide (x < 0)) x.num.natAbs x.den ≠ 0)) (floorN (decide (x < 0)) x.num.natAbs x.den) 1 = floorQ x := by
        unfold floorQ
        by_cases h0 : floorN (decide (x < 0)) x.num.natAbs x.den = 0
        · rw [h0, Cub.valQ_zero, Cub.valQ_zero]
        · rw [decide_eq_true h0, Bool.and_true]
      rw [e] at hlow
      exact ⟨hlow.2.2.symm, hlow.2.1.symm⟩
    have hfs : Small (floorQ x) := ⟨by rw [hfd.2]; exact Nat.lt_of_le_of_lt hfl.2 bx.1, by rw [hfd.1]; exact one_lt 600 (by decide)⟩
    have hft : denT (floorQ x) = ⟨#[49]⟩ := by
      unfold denT; rw [if_pos hfs, hfd.1, tx_tb 1 (one_lt 600 (by decide)), tx_one]
    have hfe : errT (floorQ x) = 0 := by unfold errT; rw [if_pos hfs]
    have h49 : ∀ W, Below w.heap.size w W → Calls Tryz.prog 49 #[.agg #[.string n1, .string d1]] W fun r w' => r = .returned (.tuple #[.agg #[.string (numT (floorQ x)), .string (denT (floorQ x))], .int .i64 (errT (floorQ x))]) ∧ Below W.heap.size W w' := fun W hb => rfloor_ok n1 d1 x W h (htab.later hb)
    have h46 := fun W => rcmp_ok (numT (floorQ x)) (denT (floorQ x)) n1 d1 (floorQ x) x W ⟨hfs, rfl, rfl⟩ h
    rw [hft] at h49 h46
    rw [hfe] at h49
    have h62a := fun W => refRead n1 d1 x W h
    have h62b := fun W => refRead _ _ y W hy
    have h63 := fun W => refFMinus y W
    have h61 := fun W => refFPlus 600 x (-y) W (by decide) (by decide) bx (bd_neg by')
    have h66 := fun W => refZeros p W (by omega)
    have h65 := fun W => refFTimes D _ _ W (by omega) (by omega) ba b2
    have h64 := fun W => refCompare (D + D) _ 1 W (by omega) (by omega) bm b1
    have h67 : ∀ W, Calls Tryz.prog 67 #[.int .i64 1] W fun r w' => r = .returned (.agg #[.bool false, .string ⟨#[49]⟩, .string ⟨#[49]⟩]) ∧ Below W.heap.size W w' := fun W => by
      have := refWhole_pos 1 W (by decide)
      rwa [tx_tb 1 (one_lt 600 (by decide)), tx_one] at this
    rw [← abs_fx, fx_two] at h65
    rw [fx_one] at h64
    rw [fx_parts] at h62a h62b h63 h61 h65 h64
    rw [fx_parts] at h63 h61
    rw [fx_parts] at h61
    exact back_fine n1 d1 _ _ _ _ n p w htab hpl (ref18_yes h) h24 h22 h26 h51 _ _ _ _ _ _ _ _ _ _ _ _ _ _ _ _ _ _ _ _ (cmp_le hhalf) (cmp_le hfq) (by rw [zeros_size]; omega) h22b h62a h62b h63 h61 h66 h65 h67 h64 h49 h46
end Go.Proofs.YtifalmdoligblaaGreatDoor

namespace Go.Proofs.YtifalmdoligblaaGreatDoor
open Go.RowKit

set_option maxRecDepth 100000 in
set_option maxHeartbeats 4000000 in
theorem back_no (n1 d1 : ByteArray) (n : Int) (w : World) (htab : Tab w) (h18 : RB n1 d1 false) :
    Calls Tryz.prog 14 #[.agg #[.string n1, .string d1], .int .i64 n] w fun r w' => r = .returned (.bool true) ∧ Below w.heap.size w w' := by
  obtain ⟨V, hV⟩ : ∃ V, V = w.alloc (.cells #[.string n1, .string d1] 23) := ⟨_, rfl⟩
  have hbV : Below w.heap.size w V := by rw [hV]; exact (Below.refl _ _).alloc (Nat.le_refl _) _
  have HS0 : Hid (T2 V w.heap.size (.string n1) (.string d1) ∧ Below w.heap.size w V) := ⟨by rw [hV]; exact ⟨by simp [go_sem], by simp [go_sem], by simp [go_sem], by simp [go_sem]⟩, hbV⟩
  have HV := hide hV
  have HAW : Hid (∀ W, Below w.heap.size w W → Calls Tryz.prog 21 #[] W fun r w' => r = .returned (.bool true) ∧ Below W.heap.size W w') := fun W hb => awake_any W (htab.later hb)
  have H18 := hide h18
  clear h18 htab hbV
  go_enter Tryz.func14, Tryz.ntmps14
  go_upto_region 1 with fail
  rw [← unhide HV]
  clear hV HV
  have t0 := (unhide HS0).1.c0; have t1 := (unhide HS0).1.c1
  go_wp2_with (first
    | (go_at_call 18; go_must (refine (unhide H18 _).mono ?_; rintro e w1 ⟨rfl, hb1⟩; have HB1 := hide ((unhide HS0).2.trans (hb1.mono (unhide HS0).2.size)); clear hb1 t0 t1))
    | (go_at_call 21; go_must (refine (unhide HAW _ (unhide HB1)).mono ?_; rintro e w2 ⟨rfl, hb2⟩; have HE := hide ((unhide HB1).trans (hb2.mono (unhide HB1).size)); clear hb2)))
  go_ret
  exact ⟨rfl, unhide HE⟩
theorem law_back (n1 d1 : ByteArray) (n : Int) (w : World) (htab : Tab w) (s1 : n1.size ≤ maxLen) (s2 : d1.size ≤ maxLen) :
    Calls Tryz.prog 14 #[.agg #[.string n1, .string d1], .int .i64 n] w fun r w' => r = .returned (.bool true) ∧ Below w.heap.size w w' := by
  by_cases h : RightT n1 d1
  · obtain ⟨x, hx⟩ := (right_isR n1 d1).1 h
    exact back_any n1 d1 x n w htab hx
  · exact back_no n1 d1 n w htab (rb_no s1 s2 h)
end Go.Proofs.YtifalmdoligblaaGreatDoor
