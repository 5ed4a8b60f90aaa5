/- rat.Of and the document's Of. -/
import Derived.Test.YthcbhnggphdflaaGreatDoorRMul
import Derived.Test.YthcbhnggphdflaaGreatDoorQQuo
import Derived.Test.YthcbhnggphdflaaGreatDoorAddSigned
import Derived.Test.YthcbhnggphdflaaGreatDoorMul
import Derived.Deep.RegionHeld3
import Derived.Test.YthcbhnggphdflaaGreatDoorShelf
import Derived.Test.YthcbhnggphdflaaGreatDoorOne
namespace Go.Proofs.YthcbhnggphdflaaGreatDoor
open Go.RowKit

/-- A number in its box, and the box of another one. -/
structure N1 (w W : World) (x y : Value) : Prop where
  a : T2 W w.heap.size x y
  r : T2 W (w.heap.size + 1) (.string ⟨#[]⟩) (.string ⟨#[]⟩)
  below : Below w.heap.size w W
theorem N1.later {w W V : World} {x y : Value} (s : N1 w W x y) (hb : Below W.heap.size W V) : N1 w V x y := ⟨s.a.later hb, s.r.later hb, s.below.trans (hb.mono s.below.size)⟩
theorem N1.first (w : World) (x y : Value) : N1 w ((w.alloc (.cells #[x, y] 28)).alloc (.cells #[.string ⟨#[]⟩, .string ⟨#[]⟩] 28)) x y :=
  ⟨⟨by simp [go_sem], by simp [go_sem], by simp [go_sem], by simp [go_sem]⟩, ⟨by simp [go_sem], by simp [go_sem], by simp [go_sem], by simp [go_sem]⟩, ((Below.refl _ _).alloc (Nat.le_refl _) _).alloc (by simp) _⟩

theorem cmp_zero (y : Rat) (h : y ≠ 0) : (Cub.cmpQ y 0 == 0) = false := by
  rw [beq_eq_false_iff_ne]
  unfold Cub.cmpQ
  split
  · decide
  · split
    · decide
    · exfalso; apply h; grind
set_option maxRecDepth 100000 in
set_option maxHeartbeats 2000000 in
theorem rquo_ok (n1 d1 n2 d2 : ByteArray) (x y : Rat) (w : World) (h1 : IsR n1 d1 x) (h2 : IsR n2 d2 y) (hy : y ≠ 0) (htab : Tab w) : Ans 38 #[.agg #[.string n1, .string d1], .agg #[.string n2, .string d2]] w (numT (x * y⁻¹)) (denT (x * y⁻¹)) (errT (x * y⁻¹)) := by
  unfold Ans
  obtain ⟨V, hV⟩ : ∃ V, V = ((w.alloc (.cells #[.string n1, .string d1] 28)).alloc (.cells #[.string n2, .string d2] 28)).alloc (.cells #[.string ⟨#[]⟩, .string ⟨#[]⟩] 28) := ⟨_, rfl⟩
  have HS : Hid (O3 w V (.string n1) (.string d1) (.string n2) (.string d2)) := by rw [hV]; exact O3.first _ _ _ _ _
  have HV := hide hV
  have HR := hide (readTwo_ok n1 d1 n2 d2 x y V h1 h2)
  have HT := hide (htab.later (un HS).below)
  have HY0 := hide hy
  have HSG : Hid (∀ W v, QOf W v y 67 → ∃ sg : Int, (sg == 0) = false ∧ Calls Tryz.prog 65 #[v] W fun r w' => r = .returned (.int .i64 sg) ∧ Below W.heap.size W w') := fun W v hv => ⟨_, cmp_zero y hy, qsign v y 67 W hv⟩
  clear h1 h2 htab hy
  go_enter Tryz.func38, Tryz.ntmps38
  go_upto_region 1 with fail
  rw [← un HV]
  clear hV HV
  have t0 := (un HS).a.c0; have t1 := (un HS).a.c1; have t2 := (un HS).b.c0; have t3 := (un HS).b.c1
  go_upto_region 2 with (go_at_call 64; go_must (refine (un HR).mono ?_; rintro e w1 ⟨v1, v2, rfl, hv1, hv2, hb1⟩; obtain ⟨b1, i1, i2, i3, i4, i5, i6, rfl⟩ := hv1.form; obtain ⟨b2, j1, j2, j3, j4, j5, j6, rfl⟩ := hv2.form; have HS1 := hide ((un HS).later hb1); have HV1 := hide hv1; have HV2 := hide hv2; have HT1 := hide ((un HT).later hb1); clear hv1 hv2 hb1 t0 t1 t2 t3))
  obtain ⟨V2, hV2⟩ : ∃ V2, V2 = (w1.alloc (.cells #[.bool b1, .slice i1 i2 i3, .slice i4 i5 i6] 118)).alloc (.cells #[.bool b2, .slice j1 j2 j3, .slice j4 j5 j6] 118) := ⟨_, rfl⟩
  have hb : Below w1.heap.size w1 V2 := by rw [hV2]; exact ((Below.refl _ _).alloc (Nat.le_refl _) _).alloc (by simp) _
  have HS2 := hide ((un HS1).later hb); have HX := hide ((un HV1).later hb); have HY := hide ((un HV2).later hb); have HT2 := hide ((un HT1).later hb)
  have HP : Hid (FBox V2 w1.heap.size (.bool b1) (.slice i1 i2 i3) (.slice i4 i5 i6)) := by rw [hV2]; exact (FBox.new _ _ _ _).later ((Below.refl _ _).alloc (Nat.le_refl _) _)
  have HQ : Hid (FBox V2 (w1.heap.size + 1) (.bool b2) (.slice j1 j2 j3) (.slice j4 j5 j6)) := by
    rw [hV2]
    have := FBox.new (w1.alloc (.cells #[.bool b1, .slice i1 i2 i3, .slice i4 i5 i6] 118)) (.bool b2) (.slice j1 j2 j3) (.slice j4 j5 j6)
    rwa [show (w1.alloc (.cells #[.bool b1, .slice i1 i2 i3, .slice i4 i5 i6] 118)).heap.size = w1.heap.size + 1 by simp] at this
  rw [← hV2]
  clear hV2 hb HS HS1 HV1 HV2 HT HT1 HR
  generalize w1.heap.size = g8 at *
  have t0 := (un HP).c0; have t1 := (un HP).c1; have t2 := (un HP).c2; have t3 := (un HQ).c0; have t4 := (un HQ).c1; have t5 := (un HQ).c2
  obtain ⟨sg, hsg, hq⟩ := un HSG V2 _ (un HY)
  have HSS := hide hq
  clear hq
  go_wp2_with (first
    | (go_at_call 65; go_must (refine (un HSS).mono ?_; rintro e w3 ⟨rfl, hb3⟩; have HX3 := hide ((un HX).later hb3); have HY3 := hide ((un HY).later hb3); have HS3 := hide ((un HS2).later hb3); have HT3 := hide ((un HT2).later hb3); have HP3 := hide ((un HP).later hb3); have HQ3 := hide ((un HQ).later hb3); clear hb3 t0 t1 t2 t3 t4 t5; have t0 := (un HP3).c0; have t1 := (un HP3).c1; have t2 := (un HP3).c2; have t3 := (un HQ3).c0; have t4 := (un HQ3).c1; have t5 := (un HQ3).c2))
    | (go_at_call 66; go_must (refine (qquo _ _ x y 67 _ (un HX3) (un HY3) (by decide) (un HY0)).mono ?_; rintro e w5 ⟨v5, rfl, hv5, hb5⟩; have HV5 := hide hv5; have HS5 := hide ((un HS3).later hb5); have HT5 := hide ((un HT3).later hb5); clear hv5 hb5 t0 t1 t2 t3 t4 t5))
    | (go_at_call 67; go_must (refine (qtell _ _ (67 + 67) _ (un HV5) (by decide) (un HT5)).mono ?_; rintro e w4 ⟨rfl, hb4⟩; have HS4 := hide ((un HS5).later hb4); clear hb4; have r0 := (un HS4).r.c0; have r1 := (un HS4).r.c1; have rf0 := (un HS4).r.f0; have rf1 := (un HS4).r.f1)))
  have hS := (un HS4).r.store (.string (numT (x * y⁻¹))) (.string (denT (x * y⁻¹)))
  have hb : Below w.heap.size w (store2 w4 (w.heap.size + 1 + 1) (.string (numT (x * y⁻¹))) (.string (denT (x * y⁻¹)))) := below_store2 (un HS4).below (by omega) _ _
  have u0 := hS.c0; have u1 := hS.c1
  exact bodyPost_ret (v := .tuple #[.agg #[.string (numT (x * y⁻¹)), .string (denT (x * y⁻¹))], .int .i64 (errT (x * y⁻¹))]) (w := store2 w4 (w.heap.size + 1 + 1) (.string (numT (x * y⁻¹))) (.string (denT (x * y⁻¹)))) (by simp [results, Tryz.results38, go_sem, u0, u1]) rfl ⟨rfl, hb⟩

end Go.Proofs.YthcbhnggphdflaaGreatDoor

namespace Go.Proofs.YthcbhnggphdflaaGreatDoor
open Go.RowKit
set_option maxRecDepth 100000 in
set_option maxHeartbeats 2000000 in
theorem rpow_of (n1 d1 : ByteArray) (x y : Rat) (j : Int) (w : World) (h1 : IsR n1 d1 x) (hj1 : -4096 ≤ j) (hj2 : j ≤ 4096) (htab : Tab w)
    (hF : ∀ W v, QOf W v x 67 → Calls Tryz.prog 120 #[v, .int .i64 j] W fun e w' => ∃ u, e = .returned (.tuple #[u, .int .i64 0]) ∧ QOf w' u y 67 ∧ Below W.heap.size W w') :
    Ans 85 #[.agg #[.string n1, .string d1], .int .i64 j] w (numT y) (denT y) (errT y) := by
  unfold Ans
  obtain ⟨V, hV⟩ : ∃ V, V = (w.alloc (.cells #[.string n1, .string d1] 28)).alloc (.cells #[.string ⟨#[]⟩, .string ⟨#[]⟩] 28) := ⟨_, rfl⟩
  have HW : Hid (Below w.heap.size w V) := by rw [hV]; exact ((Below.refl _ _).alloc (Nat.le_refl _) _).alloc (by simp) _
  have HA : Hid (T2 V w.heap.size (.string n1) (.string d1)) := by rw [hV]; exact ⟨by simp [go_sem], by simp [go_sem], by simp [go_sem], by simp [go_sem]⟩
  have HR : Hid (T2 V (w.heap.size + 1) (.string ⟨#[]⟩) (.string ⟨#[]⟩)) := by rw [hV]; exact ⟨by simp [go_sem], by simp [go_sem], by simp [go_sem], by simp [go_sem]⟩
  have HRD := hide (qread n1 d1 x V h1)
  have HTA : Hid (∀ W, Below w.heap.size w W → Tab W) := fun W h => htab.later h
  have HF := hide hF
  have HV := hide hV
  have k1 : ¬ (4096 : Int) < j := by omega
  have k2 : ¬ j < -4096 := by omega
  generalize hn : numT y = nY at *
  generalize hd : denT y = dY at *
  generalize he : errT y = eY at *
  have HTL : Hid (∀ W v, QOf W v y 67 → Tab W → Calls Tryz.prog 67 #[v] W fun r w' => r = .returned (.tuple #[.agg #[.string nY, .string dY], .int .i64 eY]) ∧ Below W.heap.size W w') := fun W v h ht => by have := qtell v y 67 W h (by decide) ht; rw [hn, hd, he] at this; exact this
  clear hV h1 hF htab hj1 hj2 hn hd he
  go_enter Tryz.func85, Tryz.ntmps85
  go_upto_region 1 with fail
  rw [← un HV]
  clear HV
  have t0 := (un HA).c0; have t1 := (un HA).c1
  go_upto_region 2 with (go_at_call 93; go_must (refine (un HRD).mono ?_; rintro e w1 ⟨v1, rfl, hv1, hb1⟩; obtain ⟨b1, i1, i2, i3, i4, i5, i6, rfl⟩ := hv1.form; have HQ1 := hide hv1; have HR1 := hide ((un HR).later hb1); have HW1 : Hid (Below w.heap.size w w1) := (un HW).trans (hb1.mono (un HW).size); clear hv1 hb1 t0 t1))
  obtain ⟨V2, hV2⟩ : ∃ V2, V2 = w1.alloc (.cells #[.bool b1, .slice i1 i2 i3, .slice i4 i5 i6] 118) := ⟨_, rfl⟩
  have hb2 : Below w1.heap.size w1 V2 := by rw [hV2]; exact (Below.refl _ _).alloc (Nat.le_refl _) _
  have HX2 : Hid (FBox V2 w1.heap.size (.bool b1) (.slice i1 i2 i3) (.slice i4 i5 i6)) := by rw [hV2]; exact FBox.new _ _ _ _
  have HQ2 := hide ((un HQ1).later hb2); have HR2 := hide ((un HR1).later hb2); have HW2 : Hid (Below w.heap.size w V2) := (un HW1).trans (hb2.mono (un HW1).size)
  rw [← hV2]
  clear hV2 hb2 HQ1 HR1 HW1 HA HR HW HRD
  generalize w1.heap.size = g6 at *
  have t0 := (un HX2).c0; have t1 := (un HX2).c1; have t2 := (un HX2).c2
  go_upto_region 7 with (go_at_call 120; go_must (refine (un HF _ _ (un HQ2)).mono ?_; rintro e w3 ⟨u, rfl, hu, hb⟩; obtain ⟨b3, m1, m2, m3, m4, m5, m6, rfl⟩ := hu.form; have HQ3 := hide hu; have HR3 := hide ((un HR2).later hb); have HW3 : Hid (Below w.heap.size w w3) := (un HW2).trans (hb.mono (un HW2).size); clear hu hb t0 t1 t2))
  obtain ⟨V4, hV4⟩ : ∃ V4, V4 = w3.alloc (.cells #[.bool b3, .slice m1 m2 m3, .slice m4 m5 m6] 118) := ⟨_, rfl⟩
  have hb4 : Below w3.heap.size w3 V4 := by rw [hV4]; exact (Below.refl _ _).alloc (Nat.le_refl _) _
  have HX4 : Hid (FBox V4 w3.heap.size (.bool b3) (.slice m1 m2 m3) (.slice m4 m5 m6)) := by rw [hV4]; exact FBox.new _ _ _ _
  have HQ4 := hide ((un HQ3).later hb4); have HR4 := hide ((un HR3).later hb4); have HW4 : Hid (Below w.heap.size w V4) := (un HW3).trans (hb4.mono (un HW3).size)
  rw [← hV4]
  clear hV4 hb4 HQ3 HR3 HW3 HQ2 HR2 HW2 HX2 HF k1 k2
  generalize w3.heap.size = g8 at *
  have t0 := (un HX4).c0; have t1 := (un HX4).c1; have t2 := (un HX4).c2
  go_wp2_with (go_at_call 67; go_must (refine (un HTL _ _ (un HQ4) (un HTA _ (un HW4))).mono ?_; rintro e w5 ⟨rfl, hb⟩; have HR5 := hide ((un HR4).later hb); have HW5 : Hid (Below w.heap.size w w5) := (un HW4).trans (hb.mono (un HW4).size); clear hb t0 t1 t2; have r0 := (un HR5).c0; have r1 := (un HR5).c1; have f0 := (un HR5).f0; have f1 := (un HR5).f1))
  have hS := (un HR5).store (.string nY) (.string dY)
  have u0 := hS.c0; have u1 := hS.c1
  exact bodyPost_ret (v := .tuple #[.agg #[.string nY, .string dY], .int .i64 eY]) (w := store2 w5 (w.heap.size + 1) (.string nY) (.string dY)) (by simp [results, Tryz.results85, go_sem, u0, u1]) rfl ⟨rfl, below_store2 (un HW5) (by omega) _ _⟩
end Go.Proofs.YthcbhnggphdflaaGreatDoor

namespace Cub

theorem valQ_mul {b c : Bool} {n d m e : Nat} (hd : 0 < d) (he : 0 < e) : valQ b n d * valQ c m e = valQ (b != c) (n * m) (d * e) := by
  unfold valQ
  rw [← sg_mul]
  have h1 := dR hd
  have h2 := dR he
  push_cast
  grind
theorem parity (b : Bool) (k : Nat) : ((b && decide (k % 2 = 1)) != b) = (b && decide ((k + 1) % 2 = 1)) := by
  cases b
  · rfl
  · rcases Nat.mod_two_eq_zero_or_one k with h | h
    · have : (k + 1) % 2 = 1 := by omega
      simp [h, this]
    · have : (k + 1) % 2 = 0 := by omega
      simp [h, this]
theorem pow_val {b : Bool} {n d : Nat} (hd : 0 < d) (k : Nat) : valQ (b && decide (k % 2 = 1)) (n ^ k) (d ^ k) = (valQ b n d) ^ k := by
  induction k with
  | zero =>
    rw [Nat.pow_zero, Nat.pow_zero]
    have : (b && decide (0 % 2 = 1)) = false := by simp
    rw [this]
    show ((sg false 1 : Int) : Rat) / ((1 : Nat) : Rat) = _
    rw [show (valQ b n d) ^ 0 = 1 from by simp [Rat.pow_zero]]
    simp [sg]
    grind
  | succ k ih =>
    rw [Rat.pow_succ, ← ih, valQ_mul (Nat.pow_pos hd) hd, parity, ← Nat.pow_succ, ← Nat.pow_succ]
theorem pow_low {b : Bool} {n d : Nat} (h : Low b n d) (k : Nat) : Low (b && decide (k % 2 = 1)) (n ^ k) (d ^ k) ∧ valQ (b && decide (k % 2 = 1)) (n ^ k) (d ^ k) = (valQ b n d) ^ k := by
  refine ⟨⟨Nat.pow_pos h.pos, ?_, ?_⟩, pow_val h.pos k⟩
  · exact Nat.Coprime.pow k k h.cop
  · intro hb
    have hb' : b = true := by cases b <;> simp_all
    have hn := h.sign hb'
    exact Nat.pos_iff_ne_zero.1 (Nat.pow_pos (Nat.pos_iff_ne_zero.2 hn))
/-- A number to any power. -/
def pw (x : Rat) (j : Int) : Rat := if j < 0 then (x⁻¹) ^ (-j).toNat else x ^ j.toNat
end Cub

namespace Go.Proofs.YthcbhnggphdflaaGreatDoor
open Go.RowKit
theorem digs_pow (m n E : Nat) (hm : 0 < m) (h : m ^ n < 10 ^ E) : (Lib.nDigits m - 1) * n < E := by
  have h1 := Cub.nDigits_ge m hm
  have h2 : (10 ^ (Lib.nDigits m - 1)) ^ n ≤ m ^ n := Nat.pow_le_pow_left h1 n
  rw [← Nat.pow_mul] at h2
  exact (Nat.pow_lt_pow_iff_right (by decide)).1 (Nat.lt_of_le_of_lt h2 h)
theorem digs_le (m E : Nat) (hm : 0 < m) (h : m < 10 ^ E) : Lib.nDigits m ≤ E := by
  have h1 := Cub.nDigits_ge m hm
  have h2 := (Nat.pow_lt_pow_iff_right (a := 10) (by decide)).1 (Nat.lt_of_le_of_lt h1 h)
  omega
theorem power_ok (x : Value) (m n E : Nat) (w : World) (hx : IsBig w x m) (hm0 : 0 < m) (hn : n ≤ 4096) (hE : E = 600) (hm : m < 10 ^ E) (hP : m ^ n < 10 ^ E) :
    Calls Tryz.prog 167 #[x, .int .i64 (n : Int)] w fun e w' => ∃ a l c, e = .returned (.tuple #[.agg #[.slice a l c], .bool true]) ∧ IsBig w' (.agg #[.slice a l c]) (m ^ n) ∧ Below w.heap.size w w' := by
  have hle : 10 ^ E ≤ 1000000000 ^ 67 := pow_nine E 67 (by rw [hE]; decide)
  have d1 := digs_pow m n E hm0 hP
  have d2 := digs_le m E hm0 hm
  have d3 := digs_le (m ^ n) E (Nat.pow_pos hm0) hP
  have d4 := Lib.nDigits_pos m
  have e1 : ((Lib.nDigits m : Int) - 1) * (n : Int) = (((Lib.nDigits m - 1) * n : Nat) : Int) := by
    rw [Int.natCast_mul, Int.natCast_sub d4]; rfl
  exact power_of x m n (m ^ n) _ _ w hx hn rfl (Nat.lt_of_lt_of_le hm hle) (Nat.lt_of_lt_of_le hP hle) rfl rfl (by omega) (by omega) (by rw [e1]; omega) (by rw [e1]; omega)
theorem signI_ne (b : Bool) (n : Nat) (h : n ≠ 0) : signI b n ≠ 0 := by cases b <;> simp [signI, h]
/-- Frac.Pow, by the number's value. -/
theorem fpow_ok (v : Value) (x : Rat) (j : Int) (w : World) (hq : QOf w v x 67) (hx : x ≠ 0) (hs : Small x) (hj1 : -4096 ≤ j) (hj2 : j ≤ 4096) (hP : Small (Cub.pw x j)) :
    Calls Tryz.prog 120 #[v, .int .i64 j] w fun e w' => ∃ u, e = .returned (.tuple #[u, .int .i64 0]) ∧ QOf w' u (Cub.pw x j) 67 ∧ Below w.heap.size w w' := by
  obtain ⟨b, n, d, h1, h2, rfl, h4, h5⟩ := hq
  obtain ⟨e1, e2, e3⟩ := Cub.low_is h2
  have hn0 : n ≠ 0 := by intro h; subst h; exact hx (Cub.valQ_zero _ _)
  have hd0 := h2.pos
  have hn : n < 10 ^ 600 := by rw [e2]; exact hs.1
  have hd : d < 10 ^ 600 := by rw [e3]; exact hs.2
  clear e1 e2 e3
  unfold Cub.pw at hP ⊢
  by_cases hj : j < 0
  · rw [if_pos hj] at hP ⊢
    obtain ⟨k, hk⟩ : ∃ k : Nat, j = -(k : Int) := ⟨(-j).toNat, by omega⟩
    have e : (-j).toNat = k := by omega
    rw [e] at hP ⊢
    rw [hk]
    obtain ⟨m1, m2⟩ := Cub.inv_low h2 hn0
    rw [← m2] at hP ⊢
    obtain ⟨p1, p2⟩ := Cub.pow_low m1 k
    obtain ⟨q1, q2, q3⟩ := Cub.low_is p1
    rw [← p2] at hP ⊢
    have hN : d ^ k < 10 ^ 600 := by rw [q2]; exact hP.1
    have hD : n ^ k < 10 ^ 600 := by rw [q3]; exact hP.2
    obtain ⟨x1, y1, z1, x2, y2, z2, rfl, _, _⟩ := h1.form
    refine (fpow_neg b x1 x2 y1 z1 y2 z2 d n k (d ^ k) (n ^ k) (signI b n) w h1 (by omega) (by omega) (signI_ne b n hn0) (fun W h => sign_any _ b n d W h) (fun W h => inv_any _ b n d W h)
      (fun W u hu => power_ok u d k 600 W hu hd0 (by omega) rfl hd hN) (fun W u hu => power_ok u n k 600 W hu (Nat.pos_of_ne_zero hn0) (by omega) rfl hn hD)).mono ?_
    rintro r w' ⟨u, rfl, hf, hb⟩
    exact ⟨u, rfl, ⟨_, _, _, hf, p1, rfl, Nat.lt_of_lt_of_le hN pow600, Nat.lt_of_lt_of_le hD pow600⟩, hb⟩
  · rw [if_neg hj] at hP ⊢
    obtain ⟨k, hk⟩ : ∃ k : Nat, j = (k : Int) := ⟨j.toNat, by omega⟩
    have e : j.toNat = k := by omega
    rw [e] at hP ⊢
    rw [hk]
    obtain ⟨p1, p2⟩ := Cub.pow_low h2 k
    obtain ⟨q1, q2, q3⟩ := Cub.low_is p1
    rw [← p2] at hP ⊢
    have hN : n ^ k < 10 ^ 600 := by rw [q2]; exact hP.1
    have hD : d ^ k < 10 ^ 600 := by rw [q3]; exact hP.2
    obtain ⟨x1, y1, z1, x2, y2, z2, rfl, g1, g2⟩ := h1.form
    refine (fpow_pos b x1 x2 y1 z1 y2 z2 n d k (n ^ k) (d ^ k) w g1 g2 (by omega)
      (fun W u hu => power_ok u n k 600 W hu (Nat.pos_of_ne_zero hn0) (by omega) rfl hn hN) (fun W u hu => power_ok u d k 600 W hu hd0 (by omega) rfl hd hD)).mono ?_
    rintro r w' ⟨u, rfl, hf, hb⟩
    exact ⟨u, rfl, ⟨_, _, _, hf, p1, rfl, Nat.lt_of_lt_of_le hN pow600, Nat.lt_of_lt_of_le hD pow600⟩, hb⟩
/-- rat.Pow of a number that is not 0, where what comes is not too large. -/
theorem rpow_ok (n1 d1 : ByteArray) (x : Rat) (j : Int) (w : World) (h1 : IsR n1 d1 x) (hj1 : -4096 ≤ j) (hj2 : j ≤ 4096) (hx0 : x ≠ 0) (hP : Small (Cub.pw x j)) (htab : Tab w) :
    Ans 85 #[.agg #[.string n1, .string d1], .int .i64 j] w (numT (Cub.pw x j)) (denT (Cub.pw x j)) (errT (Cub.pw x j)) :=
  rpow_of n1 d1 x _ j w h1 hj1 hj2 htab (fun W v hq => fpow_ok v x j W hq hx0 ⟨h1.rt.hn, h1.rt.hd⟩ hj1 hj2 hP)
end Go.Proofs.YthcbhnggphdflaaGreatDoor

namespace Go.Proofs.YthcbhnggphdflaaGreatDoor
open Go.RowKit
theorem lit_tb (s : ByteArray) (n : Nat) (h : Cub.rightB s.data.toList = true) (hv : Cub.dval s.data.toList = n) : s = tb n ∧ n < 10 ^ 600 := by
  obtain ⟨m, hm, rfl⟩ := tb_of h
  have := (tb_right m hm).2
  have e : m = n := this.symm.trans hv
  subst e
  exact ⟨rfl, hm⟩
end Go.Proofs.YthcbhnggphdflaaGreatDoor

namespace Go.Proofs.YthcbhnggphdflaaGreatDoor
open Go.RowKit Go.Sort

theorem below_grow (w : World) (k : Nat) (os : Array Obj) : Below w.heap.size w (grow (w.drewN k) os) := by
  refine ⟨rfl, rfl, rfl, ?_, fun i hi => ?_⟩
  · simp [grow, World.drewN]
  · simp only [grow]
    rw [Array.getElem?_append_left (by simpa [World.drewN] using hi)]; rfl

set_option maxHeartbeats 6400000 in
set_option maxRecDepth 100000 in
theorem intFormatUint_any (u : Nat) (hu64 : u < 18446744073709551616) (w : World) (htab : Tab w) :
    Calls Tryz.prog 168 #[.int .u64 u, .int .i64 10] w fun e w' => e = .returned (.string ⟨(Lib.decDigits u).toArray⟩) ∧ Below w.heap.size w w' := by
  by_cases hs : u < 100
  · clear htab
    go_enter Tryz.func168, Tryz.ntmps168
    go_wp2_with (go_at_call 183; refine (Tryz.internal_strconv_small u hs _).mono ?_; rintro e w' ⟨rfl, rfl⟩)
    go_ret
    exact ⟨rfl, Below.refl _ _⟩
  · have hu1 : 1 ≤ u := by omega
    have hnd20 : Lib.nDigits u ≤ 20 := by have := Lib.numDigits_eq u hu1 hu64; split at this <;> omega
    have hal : Tryz.prog.arrayLen 203 = 24 := by kernel_rfl
    have hsl : ∀ W, (Instr.sliceAt 203 (.pointer (some ⟨w.heap.size, 0, none⟩)) none (some (.int .i64 (Lib.nDigits u : Int))) none).run Tryz.prog W = .ok (.slice (some ⟨w.heap.size, 0, none⟩) (Lib.nDigits u) 24) W := fun W => by
      rw [run_sliceAt_array_h W 203 ⟨w.heap.size, 0, none⟩ (by kernel_rfl) .i64 (Lib.nDigits u : Int) (by omega) (by rw [hal]; omega)]
      go_simp
    have hH0 := Lib.holds_zero0 w 203 (Lib.nDigits u) (by omega)
    have hfmt := Tryz.internal_strconv_formatBase10 w.heap.size 0 24 u (Array.replicate (Lib.nDigits u) 0) (w.alloc (.cells Lib.zeros24 203)) hH0 (by rw [Array.size_replicate]; exact Lib.lt_pow_nDigits u) hu64 (by rw [Array.size_replicate]; omega)
    rw [Array.size_replicate] at hfmt
    have HH0 := Lib.hid hH0
    have HT := hide htab
    have iu : (100 : Int) ≤ (u : Int) := by omega
    clear hH0 hal htab
    go_enter Tryz.func168, Tryz.ntmps168
    go_wp2_with (first
      | (go_at_call 184; refine (Tryz.internal_strconv_numDigits u hu1 hu64 _ (Lib.tabIs_alloc (un HT) _)).mono ?_; rintro e w' ⟨rfl, rfl⟩))
    go_at_call 185
    refine hfmt.mono ?_
    rintro e w' ⟨rfl, k, v', dk, rfl, hF⟩
    have hcv : (convert 179 9 (.slice (some ⟨w.heap.size, 0, none⟩) (Lib.nDigits u) 24)).run Tryz.prog ((putRow (fun (b : UInt8) => Value.int .u8 (b.toNat : Int)) (w.alloc (.cells Lib.zeros24 203)) w.heap.size 0 dk).drewN k) = .ok (.string ⟨(Lib.decDigits u).toArray⟩) ((putRow (fun (b : UInt8) => Value.int .u8 (b.toNat : Int)) (w.alloc (.cells Lib.zeros24 203)) w.heap.size 0 dk).drewN k) := by
      have h := run_convert_bytes_back (P := Tryz.prog) ((putRow (fun (b : UInt8) => Value.int .u8 (b.toNat : Int)) (w.alloc (.cells Lib.zeros24 203)) w.heap.size 0 dk).drewN k) 179 9 5 ⟨w.heap.size, 0, none⟩ 24 (Lib.decDigits u) Tryz.underlying179 Tryz.underlying5 Tryz.underlying9 (fun j hj => by
        rw [Lib.row_is_numeral hF j hj, Lib.add_plain, World.cell?_drewN]
        exact cell?_putRow (fun (b : UInt8) => Value.int .u8 (b.toNat : Int)) _ w.heap.size 0 _ dk HH0.out (by rw [hF.size, Array.size_replicate]) j (by rw [hF.size]; rw [Lib.decDigits_length] at hj; exact hj))
      rw [Lib.decDigits_length] at h
      exact h
    go_wp2
    go_ret
    refine ⟨rfl, ?_⟩
    obtain ⟨os', _, e⟩ := putRow_grow_new (fun (b : UInt8) => Value.int .u8 (b.toNat : Int)) w #[.cells Lib.zeros24 203] w.heap.size 0 dk (Nat.le_refl _)
    have e2 : (putRow (fun (b : UInt8) => Value.int .u8 (b.toNat : Int)) (w.alloc (.cells Lib.zeros24 203)) w.heap.size 0 dk).drewN k = grow (w.drewN k) os' := by
      rw [alloc_eq_grow, e]; rfl
    rw [e2]
    exact below_grow w k os'

theorem formatUint_any (u : Nat) (hu64 : u < 18446744073709551616) (w : World) (htab : Tab w) :
    Calls Tryz.prog 121 #[.int .u64 u, .int .i64 10] w fun e w' => e = .returned (.string ⟨(Lib.decDigits u).toArray⟩) ∧ Below w.heap.size w w' := by
  have HT := hide htab
  clear htab
  go_enter Tryz.func121, Tryz.ntmps121
  go_wp2_with (go_at_call 168; refine (intFormatUint_any u hu64 _ (un HT)).mono ?_; rintro e w' ⟨rfl, hb⟩)
  go_ret
  exact ⟨rfl, hb⟩
theorem natOf_any (u : Nat) (hu64 : u < 18446744073709551616) (w : World) (htab : Tab w) :
    Calls Tryz.prog 87 #[.int .u64 u] w fun e w' => e = .returned (.string ⟨(Lib.decDigits u).toArray⟩) ∧ Below w.heap.size w w' := by
  have HT := hide htab
  clear htab
  go_enter Tryz.func87, Tryz.ntmps87
  go_wp2_with (go_at_call 121; refine (formatUint_any u hu64 _ (un HT)).mono ?_; rintro e w' ⟨rfl, hb⟩)
  go_ret
  exact ⟨rfl, hb⟩
end Go.Proofs.YthcbhnggphdflaaGreatDoor

namespace Go.Proofs.YthcbhnggphdflaaGreatDoor
open Go.RowKit

theorem pow_grow (e : Nat) (he : 20 ≤ e) : 18446744073709551616 ≤ 10 ^ e := Nat.le_trans (by decide : 18446744073709551616 ≤ 10 ^ 20) (Nat.pow_le_pow_right (by decide) he)
theorem u64_600 (N : Nat) (h : N < 18446744073709551616) : N < 10 ^ 600 := Nat.lt_of_lt_of_le h (pow_grow 600 (by decide))
set_option maxRecDepth 100000 in
set_option maxHeartbeats 2000000 in
theorem ratOf_pos (N : Nat) (w : World) (h2 : N < 9223372036854775808) (htab : Tab w) :
    Calls Tryz.prog 52 #[.int .i64 (N : Int)] w fun r w' => r = .returned (.agg #[.string (sT false N), .string ⟨#[49]⟩]) ∧ Below w.heap.size w w' := by
  obtain ⟨V, hV⟩ : ∃ V, V = w.alloc (.cells #[.string ⟨#[]⟩, .string ⟨#[]⟩] 28) := ⟨_, rfl⟩
  have hbV : Below w.heap.size w V := by rw [hV]; exact (Below.refl _ _).alloc (Nat.le_refl _) _
  have HR : Hid (T2 V w.heap.size (.string ⟨#[]⟩) (.string ⟨#[]⟩) ∧ Below w.heap.size w V) := ⟨by rw [hV]; exact ⟨by simp [go_sem], by simp [go_sem], by simp [go_sem], by simp [go_sem]⟩, hbV⟩
  have HV := hide hV
  have hN : N < 10 ^ 600 := u64_600 N (by omega)
  have HOF : Hid (Calls Tryz.prog 87 #[.int .u64 (N : Int)] V fun e w' => e = .returned (.string (tb N)) ∧ Below V.heap.size V w') := by
    have := natOf_any N (by omega) V (htab.later hbV)
    rwa [show (⟨(Lib.decDigits N).toArray⟩ : ByteArray) = tb N from bytes_ext (by rw [tb_list N hN])] at this
  have HSG : Hid (∀ W, Calls Tryz.prog 86 #[.bool false, .string (tb N)] W fun e w' => e = .returned (.string (sT false N)) ∧ w' = W) := fun W => signed_any false (tb N) W (by have := (tb_digs N hN).2; omega)
  have k0 : ¬ (N : Int) < 0 := by omega
  skip
  skip
  clear hN htab hbV
  generalize sT false N = sn at *
  generalize tb N = tn at *
  go_enter Tryz.func52, Tryz.ntmps52
  go_upto_region 4 with fail
  skip
  rw [← un HV]
  clear hV HV
  go_wp2_with (first
    | (go_at_call 87; go_must (refine (un HOF).mono ?_; rintro e W9 ⟨rfl, hb1⟩; have HR1 : Hid (T2 W9 w.heap.size (.string ⟨#[]⟩) (.string ⟨#[]⟩) ∧ Below w.heap.size w W9) := ⟨(un HR).1.later hb1, (un HR).2.trans (hb1.mono (un HR).2.size)⟩; clear hb1))
    | (go_at_call 86; go_must (refine (un HSG _).mono ?_; rintro e wB ⟨rfl, hwB⟩; obtain rfl : W9 = wB := hwB.symm; have r0 := (un HR1).1.c0; have r1 := (un HR1).1.c1; have rf0 := (un HR1).1.f0; have rf1 := (un HR1).1.f1)))
  have hS := (un HR1).1.store (.string sn) (.string ⟨#[49]⟩)
  have hb : Below w.heap.size w (store2 W9 w.heap.size (.string sn) (.string ⟨#[49]⟩)) := below_store2 (un HR1).2 (Nat.le_refl _) _ _
  have u0 := hS.c0; have u1 := hS.c1
  exact bodyPost_ret (v := .agg #[.string sn, .string ⟨#[49]⟩]) (w := store2 W9 w.heap.size (.string sn) (.string ⟨#[49]⟩)) (by simp [results, Tryz.results52, go_sem, u0, u1]) rfl ⟨rfl, hb⟩

end Go.Proofs.YthcbhnggphdflaaGreatDoor
