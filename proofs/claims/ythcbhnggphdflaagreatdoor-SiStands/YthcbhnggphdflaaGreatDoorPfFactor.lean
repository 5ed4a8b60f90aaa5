/- A prefix's factor. -/
import Derived.Test.YthcbhnggphdflaaGreatDoorLimb2
import Derived.Test.YthcbhnggphdflaaGreatDoorFPow
import Derived.Test.YthcbhnggphdflaaGreatDoorDimOps
import Derived.Test.YthcbhnggphdflaaGreatDoorQQuo
import Derived.Test.YthcbhnggphdflaaGreatDoorMulMath
import Derived.Deep.RegionHeld3
import Derived.Deep.Cut
import Derived.Test.YthcbhnggphdflaaGreatDoorLit
import Derived.Test.YthcbhnggphdflaaGreatDoorCopy
namespace Go.Proofs.YthcbhnggphdflaaGreatDoor
open Go.RowKit
set_option maxRecDepth 100000 in
set_option maxHeartbeats 2000000 in
theorem rpow_of (n1 d1 : ByteArray) (x y : Rat) (j : Int) (w : World) (h1 : IsR n1 d1 x) (hj1 : -4096 ≤ j) (hj2 : j ≤ 4096) (htab : Tab w)
  (hF : ∀ W v, QOf W v x 67 → Calls Tryz.prog 120 #[v, I j] W fun e w' => ∃ u, e = .returned (.tuple #[u, I 0]) ∧ QOf w' u y 67 ∧ Below W.heap.size W w') :
  Ans 85 #[.agg #[.string n1, .string d1], I j] w (numT y) (denT y) (errT y) := by
 unfold Ans
 obtain ⟨V, hV⟩ : ∃ V, V = (w.alloc (.cells #[.string n1, .string d1] 28)).alloc (.cells #[.string ⟨#[]⟩, .string ⟨#[]⟩] 28) := ⟨_, rfl⟩
 have HW : Hid (Below w.heap.size w V) := by rw [hV]; exact ((Below.refl _ _).alloc (Nat.le_refl _) _).alloc (by simp) _
 have HA : Hid (T2 V w.heap.size (.string n1) (.string d1)) := by rw [hV]; exact ⟨by simp [go_sem], by simp [go_sem], by simp [go_sem], by simp [go_sem]⟩
 have HR : Hid (T2 V (w.heap.size + 1) (.string ⟨#[]⟩) (.string ⟨#[]⟩)) := by rw [hV]; exact ⟨by simp [go_sem], by simp [go_sem], by simp [go_sem], by simp [go_sem]⟩
 have HRD := hide (qread n1 d1 x V h1)
 have HTA : Hid (∀ W, Below w.heap.size w W → Tab W) := fun W h => htab.later h
 have HF := hide hF
 have HV := hide hV
 have k1 : ¬ (4096 : Int) < j := by omega
 have k2 : ¬ j < -4096 := by omega
 generalize hn : numT y = nY at *
 generalize hd : denT y = dY at *
 generalize he : errT y = eY at *
 have HTL : Hid (∀ W v, QOf W v y 67 → Tab W → Calls Tryz.prog 67 #[v] W fun r w' => r = .returned (.tuple #[.agg #[.string nY, .string dY], I eY]) ∧ Below W.heap.size W w') := fun W v h ht => by have := qtell v y 67 W h (by decide) ht; rw [hn, hd, he] at this; exact this
 clear hV h1 hF htab hj1 hj2 hn hd he
 go_enter Tryz.func85, Tryz.ntmps85
 go_upto_region 1 with fail
 rw [← un HV]
 clear HV
 have t0 := (un HA).c0; have t1 := (un HA).c1
 go_upto_region 2 with (go_at_call 93; go_must (refine (un HRD).mono ?_; rintro e w1 ⟨v1, rfl, hv1, hb1⟩; obtain ⟨b1, i1, i2, i3, i4, i5, i6, rfl⟩ := hv1.form; have HQ1 := hide hv1; have HR1 := hide ((un HR).later hb1); have HW1 : Hid (Below w.heap.size w w1) := (un HW).trans (hb1.mono (un HW).size); clear hv1 hb1 t0 t1))
 obtain ⟨V2, hV2⟩ : ∃ V2, V2 = w1.alloc (.cells #[.bool b1, .slice i1 i2 i3, .slice i4 i5 i6] 118) := ⟨_, rfl⟩
 have hb2 : Below w1.heap.size w1 V2 := by rw [hV2]; exact (Below.refl _ _).alloc (Nat.le_refl _) _
 have HX2 : Hid (FBox V2 w1.heap.size (.bool b1) (.slice i1 i2 i3) (.slice i4 i5 i6)) := by rw [hV2]; exact FBox.new _ _ _ _
 have HQ2 := hide ((un HQ1).later hb2); have HR2 := hide ((un HR1).later hb2); have HW2 : Hid (Below w.heap.size w V2) := (un HW1).trans (hb2.mono (un HW1).size)
 rw [← hV2]
 clear hV2 hb2 HQ1 HR1 HW1 HA HR HW HRD
 generalize w1.heap.size = g6 at *
 have t0 := (un HX2).c0; have t1 := (un HX2).c1; have t2 := (un HX2).c2
 go_upto_region 7 with (go_at_call 120; go_must (refine (un HF _ _ (un HQ2)).mono ?_; rintro e w3 ⟨u, rfl, hu, hb⟩; obtain ⟨b3, m1, m2, m3, m4, m5, m6, rfl⟩ := hu.form; have HQ3 := hide hu; have HR3 := hide ((un HR2).later hb); have HW3 : Hid (Below w.heap.size w w3) := (un HW2).trans (hb.mono (un HW2).size); clear hu hb t0 t1 t2))
 obtain ⟨V4, hV4⟩ : ∃ V4, V4 = w3.alloc (.cells #[.bool b3, .slice m1 m2 m3, .slice m4 m5 m6] 118) := ⟨_, rfl⟩
 have hb4 : Below w3.heap.size w3 V4 := by rw [hV4]; exact (Below.refl _ _).alloc (Nat.le_refl _) _
 have HX4 : Hid (FBox V4 w3.heap.size (.bool b3) (.slice m1 m2 m3) (.slice m4 m5 m6)) := by rw [hV4]; exact FBox.new _ _ _ _
 have HQ4 := hide ((un HQ3).later hb4); have HR4 := hide ((un HR3).later hb4); have HW4 : Hid (Below w.heap.size w V4) := (un HW3).trans (hb4.mono (un HW3).size)
 rw [← hV4]
 clear hV4 hb4 HQ3 HR3 HW3 HQ2 HR2 HW2 HX2 HF k1 k2
 generalize w3.heap.size = g8 at *
 have t0 := (un HX4).c0; have t1 := (un HX4).c1; have t2 := (un HX4).c2
 go_wp2_with (go_at_call 67; go_must (refine (un HTL _ _ (un HQ4) (un HTA _ (un HW4))).mono ?_; rintro e w5 ⟨rfl, hb⟩; have HR5 := hide ((un HR4).later hb); have HW5 : Hid (Below w.heap.size w w5) := (un HW4).trans (hb.mono (un HW4).size); clear hb t0 t1 t2; have r0 := (un HR5).c0; have r1 := (un HR5).c1; have f0 := (un HR5).f0; have f1 := (un HR5).f1))
 have hS := (un HR5).store (.string nY) (.string dY)
 have u0 := hS.c0; have u1 := hS.c1
 exact bodyPost_ret (v := .tuple #[.agg #[.string nY, .string dY], I eY]) (w := store2 w5 (w.heap.size + 1) (.string nY) (.string dY)) (by simp [results, Tryz.results85, go_sem, u0, u1]) rfl ⟨rfl, below_store2 (un HW5) (by omega) _ _⟩
end Go.Proofs.YthcbhnggphdflaaGreatDoor

namespace Cub
theorem valQ_mul {b c : Bool} {n d m e : Nat} (hd : 0 < d) (he : 0 < e) : valQ b n d * valQ c m e = valQ (b != c) (n * m) (d * e) := by
 unfold valQ
 rw [← sg_mul]
 have h1 := dR hd
 have h2 := dR he
 push_cast
 grind
theorem parity (b : Bool) (k : Nat) : ((b && decide (k % 2 = 1)) != b) = (b && decide ((k + 1) % 2 = 1)) := by
 cases b
 ·rfl
 ·rcases Nat.mod_two_eq_zero_or_one k with h | h
  ·have : (k + 1) % 2 = 1 := by omega
   simp [h, this]
  ·have : (k + 1) % 2 = 0 := by omega
   simp [h, this]
theorem pow_val {b : Bool} {n d : Nat} (hd : 0 < d) (k : Nat) : valQ (b && decide (k % 2 = 1)) (n ^ k) (d ^ k) = (valQ b n d) ^ k := by
 induction k with
 | zero =>
  rw [Nat.pow_zero, Nat.pow_zero]
  have : (b && decide (0 % 2 = 1)) = false := by simp
  rw [this]
  show ((sg false 1 : Int) : Rat) / ((1 : Nat) : Rat) = _
  rw [show (valQ b n d) ^ 0 = 1 from by simp [Rat.pow_zero]]
  simp [sg]
  grind
 | succ k ih =>
  rw [Rat.pow_succ, ← ih, valQ_mul (Nat.pow_pos hd) hd, parity, ← Nat.pow_succ, ← Nat.pow_succ]
theorem pow_low {b : Bool} {n d : Nat} (h : Low b n d) (k : Nat) : Low (b && decide (k % 2 = 1)) (n ^ k) (d ^ k) ∧ valQ (b && decide (k % 2 = 1)) (n ^ k) (d ^ k) = (valQ b n d) ^ k := by
 refine ⟨⟨Nat.pow_pos h.pos, ?_, ?_⟩, pow_val h.pos k⟩
 ·exact Nat.Coprime.pow k k h.cop
 ·intro hb
  have hb' : b = true := by cases b <;> simp_all
  have hn := h.sign hb'
  exact Nat.pos_iff_ne_zero.1 (Nat.pow_pos (Nat.pos_iff_ne_zero.2 hn))
/-- A number to any power. -/
def pw (x : Rat) (j : Int) : Rat := if j < 0 then (x⁻¹) ^ (-j).toNat else x ^ j.toNat
end Cub

namespace Go.Proofs.YthcbhnggphdflaaGreatDoor
open Go.RowKit
theorem digs_pow (m n E : Nat) (hm : 0 < m) (h : m ^ n < 10 ^ E) : (Lib.nDigits m - 1) * n < E := by
 have h1 := Cub.nDigits_ge m hm
 have h2 : (10 ^ (Lib.nDigits m - 1)) ^ n ≤ m ^ n := Nat.pow_le_pow_left h1 n
 rw [← Nat.pow_mul] at h2
 exact (Nat.pow_lt_pow_iff_right (by decide)).1 (Nat.lt_of_le_of_lt h2 h)
theorem digs_le (m E : Nat) (hm : 0 < m) (h : m < 10 ^ E) : Lib.nDigits m ≤ E := by
 have h1 := Cub.nDigits_ge m hm
 have h2 := (Nat.pow_lt_pow_iff_right (a := 10) (by decide)).1 (Nat.lt_of_le_of_lt h1 h)
 omega
theorem power_ok (x : Value) (m n E : Nat) (w : World) (hx : IsBig w x m) (hm0 : 0 < m) (hn : n ≤ 4096) (hE : E = 600) (hm : m < 10 ^ E) (hP : m ^ n < 10 ^ E) :
  Calls Tryz.prog 167 #[x, I (n : Int)] w fun e w' => ∃ a l c, e = .returned (.tuple #[.agg #[.slice a l c], .bool true]) ∧ IsBig w' (.agg #[.slice a l c]) (m ^ n) ∧ Below w.heap.size w w' := by
 have hle : 10 ^ E ≤ 1000000000 ^ 67 := pow_nine E 67 (by rw [hE]; decide)
 have d1 := digs_pow m n E hm0 hP
 have d2 := digs_le m E hm0 hm
 have d3 := digs_le (m ^ n) E (Nat.pow_pos hm0) hP
 have d4 := Lib.nDigits_pos m
 have e1 : ((Lib.nDigits m : Int) - 1) * (n : Int) = (((Lib.nDigits m - 1) * n : Nat) : Int) := by
  rw [Int.natCast_mul, Int.natCast_sub d4]; rfl
 exact power_of x m n (m ^ n) _ _ w hx hn rfl (Nat.lt_of_lt_of_le hm hle) (Nat.lt_of_lt_of_le hP hle) rfl rfl (by omega) (by omega) (by rw [e1]; omega) (by rw [e1]; omega)
theorem signI_ne (b : Bool) (n : Nat) (h : n ≠ 0) : signI b n ≠ 0 := by cases b <;> simp [signI, h]
/-- Frac.Pow, by the number's value. -/
theorem fpow_ok (v : Value) (x : Rat) (j : Int) (w : World) (hq : QOf w v x 67) (hx : x ≠ 0) (hs : Small x) (hj1 : -4096 ≤ j) (hj2 : j ≤ 4096) (hP : Small (Cub.pw x j)) :
  Calls Tryz.prog 120 #[v, I j] w fun e w' => ∃ u, e = .returned (.tuple #[u, I 0]) ∧ QOf w' u (Cub.pw x j) 67 ∧ Below w.heap.size w w' := by
 obtain ⟨b, n, d, h1, h2, rfl, h4, h5⟩ := hq
 obtain ⟨e1, e2, e3⟩ := Cub.low_is h2
 have hn0 : n ≠ 0 := by intro h; subst h; exact hx (Cub.valQ_zero _ _)
 have hd0 := h2.pos
 have hn : n < 10 ^ 600 := by rw [e2]; exact hs.1
 have hd : d < 10 ^ 600 := by rw [e3]; exact hs.2
 clear e1 e2 e3
 unfold Cub.pw at hP ⊢
 by_cases hj : j < 0
 ·rw [if_pos hj] at hP ⊢
  obtain ⟨k, hk⟩ : ∃ k : Nat, j = -(k : Int) := ⟨(-j).toNat, by omega⟩
  have e : (-j).toNat = k := by omega
  rw [e] at hP ⊢
  rw [hk]
  obtain ⟨m1, m2⟩ := Cub.inv_low h2 hn0
  rw [← m2] at hP ⊢
  obtain ⟨p1, p2⟩ := Cub.pow_low m1 k
  obtain ⟨q1, q2, q3⟩ := Cub.low_is p1
  rw [← p2] at hP ⊢
  have hN : d ^ k < 10 ^ 600 := by rw [q2]; exact hP.1
  have hD : n ^ k < 10 ^ 600 := by rw [q3]; exact hP.2
  obtain ⟨x1, y1, z1, x2, y2, z2, rfl, _, _⟩ := h1.form
  refine (fpow_neg b x1 x2 y1 z1 y2 z2 d n k (d ^ k) (n ^ k) (signI b n) w h1 (by omega) (by omega) (signI_ne b n hn0) (fun W h => sign_any _ b n d W h) (fun W h => inv_any _ b n d W h)
   (fun W u hu => power_ok u d k 600 W hu hd0 (by omega) rfl hd hN) (fun W u hu => power_ok u n k 600 W hu (Nat.pos_of_ne_zero hn0) (by omega) rfl hn hD)).mono ?_
  rintro r w' ⟨u, rfl, hf, hb⟩
  exact ⟨u, rfl, ⟨_, _, _, hf, p1, rfl, Nat.lt_of_lt_of_le hN pow600, Nat.lt_of_lt_of_le hD pow600⟩, hb⟩
 ·rw [if_neg hj] at hP ⊢
  obtain ⟨k, hk⟩ : ∃ k : Nat, j = (k : Int) := ⟨j.toNat, by omega⟩
  have e : j.toNat = k := by omega
  rw [e] at hP ⊢
  rw [hk]
  obtain ⟨p1, p2⟩ := Cub.pow_low h2 k
  obtain ⟨q1, q2, q3⟩ := Cub.low_is p1
  rw [← p2] at hP ⊢
  have hN : n ^ k < 10 ^ 600 := by rw [q2]; exact hP.1
  have hD : d ^ k < 10 ^ 600 := by rw [q3]; exact hP.2
  obtain ⟨x1, y1, z1, x2, y2, z2, rfl, g1, g2⟩ := h1.form
  refine (fpow_pos b x1 x2 y1 z1 y2 z2 n d k (n ^ k) (d ^ k) w g1 g2 (by omega)
   (fun W u hu => power_ok u n k 600 W hu (Nat.pos_of_ne_zero hn0) (by omega) rfl hn hN) (fun W u hu => power_ok u d k 600 W hu hd0 (by omega) rfl hd hD)).mono ?_
  rintro r w' ⟨u, rfl, hf, hb⟩
  exact ⟨u, rfl, ⟨_, _, _, hf, p1, rfl, Nat.lt_of_lt_of_le hN pow600, Nat.lt_of_lt_of_le hD pow600⟩, hb⟩
/-- rat.Pow of a number that is not 0, where what comes is not too large. -/
theorem rpow_ok (n1 d1 : ByteArray) (x : Rat) (j : Int) (w : World) (h1 : IsR n1 d1 x) (hj1 : -4096 ≤ j) (hj2 : j ≤ 4096) (hx0 : x ≠ 0) (hP : Small (Cub.pw x j)) (htab : Tab w) :
  Ans 85 #[.agg #[.string n1, .string d1], I j] w (numT (Cub.pw x j)) (denT (Cub.pw x j)) (errT (Cub.pw x j)) :=
 rpow_of n1 d1 x _ j w h1 hj1 hj2 htab (fun W v hq => fpow_ok v x j W hq hx0 ⟨h1.rt.hn, h1.rt.hd⟩ hj1 hj2 hP)
end Go.Proofs.YthcbhnggphdflaaGreatDoor

namespace Go.Proofs.YthcbhnggphdflaaGreatDoor.Pf
open Go.RowKit
/-- A call that answers a power, and makes new memory alone. -/
def Made (f : Nat) (a b : Int) : Prop := ∀ W, Calls Tryz.prog f #[] W fun r w' => r = .returned (.agg #[I a, I b]) ∧ Below W.heap.size W w'
set_option maxRecDepth 100000 in
set_option maxHeartbeats 1000000 in
theorem ptimes_any (a b c d : Int) (w : World) (h1 : -1000 ≤ b) (h2 : b ≤ 1000) (h3 : -1000 ≤ d) (h4 : d ≤ 1000) :
  Calls Tryz.prog 179 #[.agg #[I a, I b], .agg #[I c, I d]] w fun r w' => r = .returned (.agg #[I a, I (b + d)]) ∧ Below w.heap.size w w' := by
 go_enter Tryz.func179, Tryz.ntmps179
 go_wp2
 exact bodyPost_ret (v := .agg #[I a, I (b + d)]) (by simp [results, Tryz.results179, go_sem]) rfl ⟨rfl, (((Below.refl _ _).alloc (Nat.le_refl _) _).alloc (by simp) _).alloc (by simp; omega) _⟩
set_option maxRecDepth 100000 in
set_option maxHeartbeats 1000000 in
theorem deca_made : Made 131 10 1 := by
 intro w
 go_enter Tryz.func131, Tryz.ntmps131
 go_wp2
 exact bodyPost_ret (v := .agg #[I 10, I 1]) (by simp [results, Tryz.results131, go_sem]) rfl ⟨rfl, (Below.refl _ _).alloc (Nat.le_refl _) _⟩
set_option maxRecDepth 100000 in
set_option maxHeartbeats 1000000 in
theorem hecto_made : Made 132 10 2 := by
 intro w
 have H1 := hide deca_made
 have H2 := hide deca_made
 unfold Made at H1 H2
 have HT : Hid (∀ W, Calls Tryz.prog 179 #[.agg #[I 10, I 1], .agg #[I 10, I 1]] W fun r w' => r = .returned (.agg #[I 10, I 2]) ∧ Below W.heap.size W w') := fun W => ptimes_any 10 1 10 1 W (by decide) (by decide) (by decide) (by decide)
 obtain ⟨V, hV⟩ : ∃ V, V = w.alloc (.cells #[I 0, I 0] 182) := ⟨_, rfl⟩
 have HS : Hid (T2 V w.heap.size (I 0) (I 0) ∧ Below w.heap.size w V) := by rw [hV]; exact ⟨⟨by simp [go_sem], by simp [go_sem], by simp [go_sem], by simp [go_sem]⟩, (Below.refl _ _).alloc (Nat.le_refl _) _⟩
 have HV := hide hV
 go_enter Tryz.func132, Tryz.ntmps132
 go_upto_region 1 with fail
 rw [← un HV]
 clear hV HV
 go_wp2_with (first
  | (go_at_call 131; go_must (refine (un H1 _).mono ?_; rintro e wn ⟨rfl, hb⟩; replace HS := hide (And.intro ((un HS).1.later hb) ((un HS).2.trans (hb.mono (un HS).2.size))); clear hb))
  | (go_at_call 179; go_must (refine (un HT _).mono ?_; rintro e wl ⟨rfl, hb⟩; have HL : Hid (T2 wl w.heap.size (I 0) (I 0) ∧ Below w.heap.size w wl) := ⟨(un HS).1.later hb, (un HS).2.trans (hb.mono (un HS).2.size)⟩; clear hb; have r0 := (un HL).1.c0; have r1 := (un HL).1.c1; have rf0 := (un HL).1.f0; have rf1 := (un HL).1.f1)))
 have hS := (un HL).1.store (I 10) (I 2)
 have hb := below_store2 (un HL).2 (Nat.le_refl _) (I 10) (I 2)
 have v0 := hS.c0; have v1 := hS.c1
 exact bodyPost_ret (v := .agg #[I 10, I 2]) (w := store2 wl w.heap.size (I 10) (I 2)) (by simp [results, Tryz.results132, go_sem, v0, v1]) rfl ⟨rfl, hb⟩
set_option maxRecDepth 100000 in
set_option maxHeartbeats 1000000 in
theorem kilo_made : Made 133 10 3 := by
 intro w
 have H1 := hide hecto_made
 have H2 := hide deca_made
 unfold Made at H1 H2
 have HT : Hid (∀ W, Calls Tryz.prog 179 #[.agg #[I 10, I 2], .agg #[I 10, I 1]] W fun r w' => r = .returned (.agg #[I 10, I 3]) ∧ Below W.heap.size W w') := fun W => ptimes_any 10 2 10 1 W (by decide) (by decide) (by decide) (by decide)
 obtain ⟨V, hV⟩ : ∃ V, V = w.alloc (.cells #[I 0, I 0] 182) := ⟨_, rfl⟩
 have HS : Hid (T2 V w.heap.size (I 0) (I 0) ∧ Below w.heap.size w V) := by rw [hV]; exact ⟨⟨by simp [go_sem], by simp [go_sem], by simp [go_sem], by simp [go_sem]⟩, (Below.refl _ _).alloc (Nat.le_refl _) _⟩
 have HV := hide hV
 go_enter Tryz.func133, Tryz.ntmps133
 go_upto_region 1 with fail
 rw [← un HV]
 clear hV HV
 go_wp2_with (first
  | (go_at_call 132; go_must (refine (un H1 _).mono ?_; rintro e wn ⟨rfl, hb⟩; replace HS := hide (And.intro ((un HS).1.later hb) ((un HS).2.trans (hb.mono (un HS).2.size))); clear hb))
  | (go_at_call 131; go_must (refine (un H2 _).mono ?_; rintro e wn ⟨rfl, hb⟩; replace HS := hide (And.intro ((un HS).1.later hb) ((un HS).2.trans (hb.mono (un HS).2.size))); clear hb))
  | (go_at_call 179; go_must (refine (un HT _).mono ?_; rintro e wl ⟨rfl, hb⟩; have HL : Hid (T2 wl w.heap.size (I 0) (I 0) ∧ Below w.heap.size w wl) := ⟨(un HS).1.later hb, (un HS).2.trans (hb.mono (un HS).2.size)⟩; clear hb; have r0 := (un HL).1.c0; have r1 := (un HL).1.c1; have rf0 := (un HL).1.f0; have rf1 := (un HL).1.f1)))
 have hS := (un HL).1.store (I 10) (I 3)
 have hb := below_store2 (un HL).2 (Nat.le_refl _) (I 10) (I 3)
 have v0 := hS.c0; have v1 := hS.c1
 exact bodyPost_ret (v := .agg #[I 10, I 3]) (w := store2 wl w.heap.size (I 10) (I 3)) (by simp [results, Tryz.results133, go_sem, v0, v1]) rfl ⟨rfl, hb⟩
end Go.Proofs.YthcbhnggphdflaaGreatDoor.Pf

namespace Go.Proofs.YthcbhnggphdflaaGreatDoor.Pf
open Go.RowKit
theorem small_of_err {x : Rat} (h : errT x = 0) : Small x := by
  unfold errT at h
  by_cases hs : Small x
  · exact hs
  · rw [if_neg hs] at h; cases h
theorem one_lt (E : Nat) (h : E = 600) : (1 : Nat) < 10 ^ E := Nat.one_lt_pow (by omega) (by decide)
theorem texts_low {n d : Nat} {x : Rat} (h : Cub.Low false n d) (e : x = Cub.valQ false n d) (hn : n < 10 ^ 600) (hd : d < 10 ^ 600) : numT x = tb n ∧ denT x = tb d ∧ errT x = 0 := by
  subst e
  obtain ⟨e1, e2, e3⟩ := Cub.low_is h
  have hs : Small (Cub.valQ false n d) := ⟨by rw [← e2]; exact hn, by rw [← e3]; exact hd⟩
  unfold numT denT errT
  rw [if_pos hs, if_pos hs, if_pos hs, ← e1, ← e2, ← e3]
  exact ⟨rfl, rfl, rfl⟩
theorem fac_pos (N k : Nat) (j : Int) (hj : j = (k : Int)) (h : N ^ k < 10 ^ 600) : numT (Cub.pw (Cub.valQ false N 1) j) = tb (N ^ k) ∧ denT (Cub.pw (Cub.valQ false N 1) j) = tb 1 ∧ errT (Cub.pw (Cub.valQ false N 1) j) = 0 := by
  have hl : Cub.Low false N 1 := ⟨by decide, Nat.gcd_one_right _, fun h => by cases h⟩
  obtain ⟨h1, h2⟩ := Cub.pow_low hl k
  simp only [Bool.false_and, Nat.one_pow] at h1 h2
  refine texts_low h1 ?_ h (one_lt 600 rfl)
  unfold Cub.pw
  rw [hj, if_neg (by omega), Int.toNat_natCast, h2]
theorem bel_al {U W V : World} {O : Obj} (h : Below U.heap.size U W) (hb : Below (W.alloc O).heap.size (W.alloc O) V) : Below U.heap.size U V :=
  (h.alloc h.size O).trans (hb.mono (h.alloc h.size O).size)
theorem bel_alD {W V : World} {O : Obj} (hb : Below (W.alloc O).drew.heap.size (W.alloc O).drew V) : Below W.heap.size W V :=
  have h0 := (Below.refl W.heap.size W).alloc (Nat.le_refl _) O
  have h : Below W.heap.size W (W.alloc O).drew := h0.trans ((Below.refl _ _).drew.mono h0.size)
  h.trans (hb.mono h.size)
set_option maxRecDepth 100000 in
set_option maxHeartbeats 4000000 in
theorem factor_walk (N : Nat) (j : Int) (on od fn fd : ByteArray) (w : World)
    (hof : ∀ W, Below w.heap.size w W → Calls Tryz.prog 52 #[I (N : Int)] W fun r w' => r = .returned (.agg #[.string on, .string od]) ∧ Below W.heap.size W w')
    (hpw : ∀ W, Below w.heap.size w W → Calls Tryz.prog 85 #[.agg #[.string on, .string od], I j] W fun r w' => r = .returned (.tuple #[.agg #[.string fn, .string fd], I 0]) ∧ Below W.heap.size W w') :
    Calls Tryz.prog 163 #[.agg #[I (N : Int), I j]] w fun r w' => r = .returned (.agg #[.string fn, .string fd]) ∧ Below w.heap.size w w' := by
  obtain ⟨V, hV⟩ : ∃ V, V = (w.alloc (.cells #[I (N : Int), I j] 182)).alloc (.cells #[.string ⟨#[]⟩, .string ⟨#[]⟩] 28) := ⟨_, rfl⟩
  have HP : Hid (T2 V w.heap.size (I (N : Int)) (I j)) := by rw [hV]; exact ⟨by simp [go_sem], by simp [go_sem], by simp [go_sem], by simp [go_sem]⟩
  have HR : Hid (T2 V (w.heap.size + 1) (.string ⟨#[]⟩) (.string ⟨#[]⟩)) := by rw [hV]; exact ⟨by simp [go_sem], by simp [go_sem], by simp [go_sem], by simp [go_sem]⟩
  have HB : Hid (Below w.heap.size w V) := by rw [hV]; exact ((Below.refl _ _).alloc (Nat.le_refl _) _).alloc (by simp) _
  have HV := hide hV
  have HOF := hide hof; have HPW := hide hpw
  clear hof hpw
  go_enter Tryz.func163, Tryz.ntmps163
  go_upto_region 1 with fail
  rw [← un HV]
  clear hV HV
  have t0 := (un HP).c0; have t1 := (un HP).c1
  have HC0 : Hid (Below V.heap.size V V.drew) := (Below.refl _ _).drew
  have HUP : Hid (∀ W, Below V.heap.size V W → Below w.heap.size w W) := fun W h => (un HB).trans (h.mono (un HB).size)
  have HUA : Hid (∀ W O, Below V.heap.size V W → Below w.heap.size w (W.alloc O)) := fun W O h => (un HB).trans ((h.alloc h.size O).mono (un HB).size)
  have HUD : Hid (∀ O, Below w.heap.size w (V.alloc O).drew) := fun O => ((un HB).alloc (un HB).size O).drew
  have hv0 := (un HP).lt
  go_region_held3 (fun w' => w'.cell? ⟨w.heap.size, 0, none⟩ = some (I (N : Int)) ∧ w'.cell? ⟨w.heap.size, 1, none⟩ = some (I j)) (first | assumption | (simp [go_sem, *]; done)) ((first
    | (go_at_call 52; go_must (refine (un HOF _ (by first | exact un HUP _ (un HC0) | exact un HUA _ _ (un HC0) | exact un HUD _)).mono ?_; rintro e wa ⟨rfl, hb⟩; have HCwa : Hid (Below V.heap.size V wa) := (by first | exact (un HC0).trans (hb.mono (un HC0).size) | exact bel_al (un HC0) hb | exact bel_alD hb); (first | (have HZa := hide ((un HZ0).later hb); clear u0 u1 uf0 uf1; have u0 := (un HZa).c0; have u1 := (un HZa).c1; have uf0 := (un HZa).f0; have uf1 := (un HZa).f1) | (have HZa : Hid (T2 wa V.heap.size (.string ⟨#[]⟩) (.string ⟨#[]⟩)) := (by first | exact T2.past hb | exact T2.pastD hb); have u0 := (un HZa).c0; have u1 := (un HZa).c1; have uf0 := (un HZa).f0; have uf1 := (un HZa).f1) | skip); clear hb t0 t1; have t0 := ((un HP).later (un HCwa)).c0; have t1 := ((un HP).later (un HCwa)).c1; have hvwa := ((un HP).later (un HCwa)).lt))
    | (go_at_call 85; go_must (refine (un HPW _ (by first | exact un HUP _ (un HCwa) | exact un HUA _ _ (un HCwa) | exact un HUD _)).mono ?_; rintro e wb ⟨rfl, hb⟩; have HCwb : Hid (Below V.heap.size V wb) := (by first | exact (un HCwa).trans (hb.mono (un HCwa).size) | exact bel_al (un HCwa) hb | exact bel_alD hb); (first | (have HZb := hide ((un HZa).later hb); clear u0 u1 uf0 uf1; have u0 := (un HZb).c0; have u1 := (un HZb).c1; have uf0 := (un HZb).f0; have uf1 := (un HZb).f1) | (have HZb : Hid (T2 wb wa.heap.size (.string ⟨#[]⟩) (.string ⟨#[]⟩)) := (by first | exact T2.past hb | exact T2.pastD hb); have u0 := (un HZb).c0; have u1 := (un HZb).c1; have uf0 := (un HZb).f0; have uf1 := (un HZb).f1) | skip); clear hb t0 t1; have t0 := ((un HP).later (un HCwb)).c0; have t1 := ((un HP).later (un HCwb)).c1; have hvwb := ((un HP).later (un HCwb)).lt))))
  all_goals
    first
    | (obtain ⟨X, hX⟩ : ∃ X, X = wb.heap.size := ⟨_, rfl⟩
       obtain ⟨U, hU⟩ : ∃ U, U = wb.alloc (.cells #[.string fn, .string fd] 28) := ⟨_, rfl⟩
       have HF : Hid (T2 U X (.string fn) (.string fd) ∧ T2 U (w.heap.size + 1) (.string ⟨#[]⟩) (.string ⟨#[]⟩) ∧ Below w.heap.size w U) := by
         rw [hU, hX]
         exact ⟨⟨by simp [go_sem], by simp [go_sem], by simp [go_sem], by simp [go_sem]⟩, ((un HR).later (un HCwb)).later ((Below.refl _ _).alloc (Nat.le_refl _) _), un HUA _ _ (un HCwb)⟩
       rw [← hU, ← hX]
       clear hU hX)
    | (obtain ⟨X, hX⟩ : ∃ X, X = wa.heap.size := ⟨_, rfl⟩
       obtain ⟨U, hU⟩ : ∃ U, U = (wb.setCell { block := wa.heap.size, off := 0 } (.string fn)).setCell { block := wa.heap.size, off := 1 } (.string fd) := ⟨_, rfl⟩
       have HF : Hid (T2 U X (.string fn) (.string fd) ∧ T2 U (w.heap.size + 1) (.string ⟨#[]⟩) (.string ⟨#[]⟩) ∧ Below w.heap.size w U) := by
         rw [hU, hX]
         have h1 := ((un HR).later (un HCwa)).lt
         exact ⟨(un HZb).store _ _, ((un HR).later (un HCwb)).otherP wa.heap.size (by omega) _ _, below_store2 (un HUP _ (un HCwb)) (by omega) _ _⟩
       rw [← hU, ← hX]
       clear hU hX)
    | (obtain ⟨X, hX⟩ : ∃ X, X = V.heap.size := ⟨_, rfl⟩
       obtain ⟨U, hU⟩ : ∃ U, U = (wb.setCell { block := V.heap.size, off := 0 } (.string fn)).setCell { block := V.heap.size, off := 1 } (.string fd) := ⟨_, rfl⟩
       have HF : Hid (T2 U X (.string fn) (.string fd) ∧ T2 U (w.heap.size + 1) (.string ⟨#[]⟩) (.string ⟨#[]⟩) ∧ Below w.heap.size w U) := by
         rw [hU, hX]
         have h1 := (un HR).lt
         exact ⟨(un HZb).store _ _, ((un HR).later (un HCwb)).otherP V.heap.size (by omega) _ _, below_store2 (un HUP _ (un HCwb)) (by omega) _ _⟩
       rw [← hU, ← hX]
       clear hU hX)
  all_goals
    have x0 := (un HF).1.c0; have x1 := (un HF).1.c1
    have r0 := (un HF).2.1.c0; have r1 := (un HF).2.1.c1; have rf0 := (un HF).2.1.f0; have rf1 := (un HF).2.1.f1
    go_wp2_with fail
    have hS := (un HF).2.1.store (.string fn) (.string fd)
    have hb := below_store2 (un HF).2.2 (by omega) (.string fn) (.string fd) (g := w.heap.size + 1)
    have v0 := hS.c0; have v1 := hS.c1
    exact bodyPost_ret (v := .agg #[.string fn, .string fd]) (w := store2 U (w.heap.size + 1) (.string fn) (.string fd)) (by simp [results, Tryz.results163, go_sem, v0, v1]) rfl ⟨rfl, hb⟩
theorem factor_any (N : Nat) (j : Int) (fn fd : ByteArray) (w : World) (htab : Tab w) (hN : 0 < N) (hN2 : N < 100000) (hj1 : -4096 ≤ j) (hj2 : j ≤ 4096) (h : numT (Cub.pw (Cub.valQ false N 1) j) = fn ∧ denT (Cub.pw (Cub.valQ false N 1) j) = fd ∧ errT (Cub.pw (Cub.valQ false N 1) j) = 0) :
    Calls Tryz.prog 163 #[.agg #[I (N : Int), I j]] w fun r w' => r = .returned (.agg #[.string fn, .string fd]) ∧ Below w.heap.size w w' := by
  have hs : N < 10 ^ 600 := u64_600 N (by omega)
  have hl : Cub.Low false N 1 := ⟨by decide, Nat.gcd_one_right _, fun h => by cases h⟩
  obtain ⟨e1, e2, e3⟩ := Cub.low_is hl
  have hsm : Small (Cub.valQ false N 1) := ⟨by rw [← e2]; exact hs, by rw [← e3]; exact one_lt 600 rfl⟩
  have hR : IsR (sT false N) ⟨#[49]⟩ (Cub.valQ false N 1) := by
    refine ⟨hsm, ?_, ?_⟩
    · unfold numT; rw [if_pos hsm, ← e1, ← e2]
    · unfold denT; rw [if_pos hsm, ← e3]; exact (lit_tb ⟨#[49]⟩ 1 (by decide) (by decide)).1
  have hx0 : Cub.valQ false N 1 ≠ 0 := fun e => by
    rw [e] at e2
    have : N = 0 := e2
    omega
  refine factor_walk N j (sT false N) ⟨#[49]⟩ fn fd w (fun W hb => ratOf_pos N W (by omega) (htab.later hb)) (fun W hb => ?_)
  have hp := rpow_ok (sT false N) ⟨#[49]⟩ (Cub.valQ false N 1) j W hR hj1 hj2 hx0 (small_of_err h.2.2) (htab.later hb)
  unfold Ans at hp
  rw [h.1, h.2.1, h.2.2] at hp
  exact hp
end Go.Proofs.YthcbhnggphdflaaGreatDoor.Pf
