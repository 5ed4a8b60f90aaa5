/- rat.Right, rat.New; the document's Lowest, Told, New. -/
import Derived.Test.YtoinadnpdbaamaaGreatDoorRefR
import Derived.Test.YtoinadnpdbaamaaGreatDoorFieldM
import Derived.Test.YtoinadnpdbaamaaGreatDoorText
import Derived.Test.YtoinadnpdbaamaaGreatDoorTb
import Derived.Lib.ItoaLen
import Derived.Test.YtoinadnpdbaamaaGreatDoorLawNo
import Derived.Test.YtoinadnpdbaamaaGreatDoorGcdSmall
namespace Go.Proofs.YtoinadnpdbaamaaGreatDoor
open Go.RowKit

theorem ratRight_any (num den : ByteArray) (ok : Bool) (w : World) (h : Reads num den ok) :
    Calls Tryz.prog 17 #[.agg #[.string num, .string den]] w fun r w' => r = .returned (.bool ok) ∧ Below w.heap.size w w' := by
  obtain ⟨V, hV⟩ : ∃ V, V = w.alloc (.cells #[.string num, .string den] 23) := ⟨_, rfl⟩
  have hbV : Below w.heap.size w V := by rw [hV]; exact (Below.refl _ _).alloc (Nat.le_refl _) _
  have HBV := hide hbV
  have HV := hide hV
  have H := hide (h V)
  clear h hbV
  go_enter Tryz.func17, Tryz.ntmps17
  go_upto_region 1 with fail
  rw [← unhide HV]
  have c0 : V.cell? ⟨w.heap.size, 0, none⟩ = some (.string num) := by rw [hV]; simp [go_sem]
  have c1 : V.cell? ⟨w.heap.size, 1, none⟩ = some (.string den) := by rw [hV]; simp [go_sem]
  clear hV HV
  go_wp2_with (go_at_call 76; go_must (refine (unhide H).mono ?_; rintro e w1 ⟨b, i1, i2, i3, i4, i5, i6, rfl, hb1⟩; have HB1 := hide ((unhide HBV).trans (hb1.mono (unhide HBV).size)); clear hb1 c0 c1))
  go_ret
  exact ⟨rfl, (unhide HB1).trans (((Below.refl _ _).alloc (Nat.le_refl _) _).mono (unhide HB1).size)⟩

/-- What a quotient of two texts comes to. -/
theorem ratio_q {b : Bool} {m n : Nat} (hn : 0 < n) (hm6 : m < 10 ^ 600) (hn6 : n < 10 ^ 600) :
    Small (Cub.valQ b m n) ∧ numT (Cub.valQ b m n) = sT (b && decide (m / Nat.gcd m n ≠ 0)) (m / Nat.gcd m n) ∧ denT (Cub.valQ b m n) = tb (n / Nat.gcd m n) ∧ errT (Cub.valQ b m n) = 0 := by
  obtain ⟨l1, l2⟩ := Cub.ratio_low (b := b) (n := m) hn
  obtain ⟨e1, e2, e3⟩ := Cub.low_is l1
  rw [l2] at e1 e2 e3
  have hs : Small (Cub.valQ b m n) := ⟨by rw [← e2]; exact Nat.lt_of_le_of_lt (Nat.div_le_self _ _) hm6, by rw [← e3]; exact Nat.lt_of_le_of_lt (Nat.div_le_self _ _) hn6⟩
  refine ⟨hs, ?_, ?_, errT_pos hs⟩
  · unfold numT; rw [if_pos hs, ← e1, ← e2]
  · unfold denT; rw [if_pos hs, ← e3]

set_option maxRecDepth 100000 in
set_option maxHeartbeats 2000000 in
theorem new_ok (num den : ByteArray) (b : Bool) (m n : Nat) (w : World) (hnum : num = sT b m) (hden : den = tb n) (hm : m < 10 ^ 600) (hn : n < 10 ^ 600) (hn0 : n ≠ 0) (htab : Tab w) :
    Ans 15 #[.string num, .string den] w (numT (Cub.valQ b m n)) (denT (Cub.valQ b m n)) (errT (Cub.valQ b m n)) := by
  unfold Ans
  obtain ⟨V, hV⟩ : ∃ V, V = w.alloc (.cells #[.string ⟨#[]⟩, .string ⟨#[]⟩] 23) := ⟨_, rfl⟩
  have hbV : Below w.heap.size w V := by rw [hV]; exact (Below.refl _ _).alloc (Nat.le_refl _) _
  have HR : Hid (T2 V w.heap.size (.string ⟨#[]⟩) (.string ⟨#[]⟩) ∧ Below w.heap.size w V) := ⟨by rw [hV]; exact ⟨by simp [go_sem], by simp [go_sem], by simp [go_sem], by simp [go_sem]⟩, hbV⟩
  have HV := hide hV
  have HTW := hide htab
  have HC68 : Hid (Calls Tryz.prog 68 #[.string num] V fun e w' => e = .returned (.tuple #[.bool b, .string (tb m)]) ∧ w' = V) := by
    have := cutSign_any num V
    rw [hnum, neg_sT b m hm, dig_sT b m hm] at this
    rw [hnum]; exact this
  have HR1 : Hid (Calls Tryz.prog 69 #[.string (tb m)] V fun e w' => e = .returned (.bool true) ∧ w' = V) := by
    have := right_any (tb m) V (tb_size m hm)
    rwa [(tb_right m hm).1] at this
  have HR2 : Hid (Calls Tryz.prog 69 #[.string den] V fun e w' => e = .returned (.bool true) ∧ w' = V) := by
    have := right_any (tb n) V (tb_size n hn)
    rw [(tb_right n hn).1] at this
    rw [hden]; exact this
  have z2 : (den.toList == [48]) = false := by rw [hden, tb_eq48 n hn, beq_eq_false_iff_ne]; exact hn0
  have HB1 : Hid (∀ W, Calls Tryz.prog 71 #[.string (tb m)] W fun e w' => ∃ v, e = .returned v ∧ IsBig w' v m ∧ Below W.heap.size W w') := fun W => by
    have := bigText_any (tb m) W (by have := (tb_digs m hm).2; omega) (tb_digs m hm).1
    rwa [(tb_right m hm).2] at this
  have HB2 : Hid (∀ W, Calls Tryz.prog 71 #[.string den] W fun e w' => ∃ v, e = .returned v ∧ IsBig w' v n ∧ Below W.heap.size W w') := fun W => by
    have := bigText_any (tb n) W (by have := (tb_digs n hn).2; omega) (tb_digs n hn).1
    rw [(tb_right n hn).2] at this
    rw [hden]; exact this
  have p6 := pow600
  have hmk := Nat.lt_of_lt_of_le hm p6
  have hnk := Nat.lt_of_lt_of_le hn p6
  have HRA : Hid (∀ W x y, IsBig W x m → IsBig W y n → Calls Tryz.prog 70 #[.bool b, x, y] W fun e w' => ∃ v', e = .returned v' ∧ QOf w' v' (Cub.valQ b m n) 67 ∧ Below W.heap.size W w') := fun W x y h1 h2 => by
    refine (ratio_any b x y m n 67 W h1 h2 hmk hnk (by omega) (divAns 67 (by decide)) (gcdAns 67 (by decide))).mono ?_
    rintro e w' ⟨v', rfl, hf, hb⟩
    obtain ⟨l1, l2⟩ := Cub.ratio_low (b := b) (n := m) (show 0 < n by omega)
    exact ⟨v', rfl, ⟨_, _, _, hf, l1, l2, Nat.lt_of_le_of_lt (Nat.div_le_self _ _) hmk, Nat.lt_of_le_of_lt (Nat.div_le_self _ _) hnk⟩, hb⟩
  have HTE : Hid (∀ W v, QOf W v (Cub.valQ b m n) 67 → Tab W → Calls Tryz.prog 72 #[v] W fun r w' => r = .returned (.tuple #[.agg #[.string (numT (Cub.valQ b m n)), .string (denT (Cub.valQ b m n))], .int .i64 (errT (Cub.valQ b m n))]) ∧ Below W.heap.size W w') := fun W v h ht => qtell v _ 67 W h (by decide) ht
  clear hnum hden hm hn hn0 htab hbV p6 hmk hnk
  generalize numT (Cub.valQ b m n) = rn at *
  generalize denT (Cub.valQ b m n) = rd at *
  generalize errT (Cub.valQ b m n) = re at *
  generalize tb m = ds at *
  go_enter Tryz.func15, Tryz.ntmps15
  go_upto_region 1 with fail
  rw [← unhide HV]
  clear hV HV
  go_upto_region 6 with (first
    | (go_at_call 68; go_must (refine (unhide HC68).mono ?_; rintro e w1 ⟨rfl, hw1⟩; obtain rfl : V = w1 := hw1.symm))
    | (go_at_call_of 69 (Value.string ds); go_must (refine (unhide HR1).mono ?_; rintro e w1 ⟨rfl, hw1⟩; obtain rfl : V = w1 := hw1.symm))
    | (go_at_call 69; go_must (refine (unhide HR2).mono ?_; rintro e w1 ⟨rfl, hw1⟩; obtain rfl : V = w1 := hw1.symm)))
  clear z2
  go_wp2_with (first
    | (go_at_call_of 71 (Value.string ds); go_must (refine (unhide HB1 _).mono ?_; rintro e w2 ⟨v2, rfl, hv2, hb2⟩; have HX2 := hide hv2; have HR2' : Hid (T2 w2 w.heap.size (.string ⟨#[]⟩) (.string ⟨#[]⟩) ∧ Below w.heap.size w w2) := ⟨(unhide HR).1.later hb2, (unhide HR).2.trans (hb2.mono (unhide HR).2.size)⟩; clear hv2 hb2))
    | (go_at_call 71; go_must (refine (unhide HB2 _).mono ?_; rintro e w3 ⟨v3, rfl, hv3, hb3⟩; have HX3 := hide ((unhide HX2).later hb3); have HY3 := hide hv3; have HR3 : Hid (T2 w3 w.heap.size (.string ⟨#[]⟩) (.string ⟨#[]⟩) ∧ Below w.heap.size w w3) := ⟨(unhide HR2').1.later hb3, (unhide HR2').2.trans (hb3.mono (unhide HR2').2.size)⟩; clear hv3 hb3))
    | (go_at_call 70; go_must (refine (unhide HRA _ _ _ (unhide HX3) (unhide HY3)).mono ?_; rintro e w4 ⟨v4, rfl, hv4, hb4⟩; have HQ4 := hide hv4; have HR4 : Hid (T2 w4 w.heap.size (.string ⟨#[]⟩) (.string ⟨#[]⟩) ∧ Below w.heap.size w w4) := ⟨(unhide HR3).1.later hb4, (unhide HR3).2.trans (hb4.mono (unhide HR3).2.size)⟩; clear hv4 hb4))
    | (go_at_call 72; go_must (refine (unhide HTE _ _ (unhide HQ4) ((unhide HTW).later (unhide HR4).2)).mono ?_; rintro e w5 ⟨rfl, hb5⟩; have HR5 : Hid (T2 w5 w.heap.size (.string ⟨#[]⟩) (.string ⟨#[]⟩) ∧ Below w.heap.size w w5) := ⟨(unhide HR4).1.later hb5, (unhide HR4).2.trans (hb5.mono (unhide HR4).2.size)⟩; clear hb5; have r0 := (unhide HR5).1.c0; have r1 := (unhide HR5).1.c1; have rf0 := (unhide HR5).1.f0; have rf1 := (unhide HR5).1.f1)))
  have hS := (unhide HR5).1.store (.string rn) (.string rd)
  have hb : Below w.heap.size w (store2 w5 (w.heap.size) (.string rn) (.string rd)) := below_store2 (unhide HR5).2 (by omega) _ _
  have u0 := hS.c0; have u1 := hS.c1
  exact bodyPost_ret (v := .tuple #[.agg #[.string rn, .string rd], .int .i64 re]) (w := store2 w5 (w.heap.size) (.string rn) (.string rd)) (by simp [results, Tryz.results15, go_sem, u0, u1]) rfl ⟨rfl, hb⟩

set_option maxRecDepth 100000 in
set_option maxHeartbeats 2000000 in
/-- rat.New where it answers an error: 3, or 8 where the second text is 0. -/
theorem new_err (num den ds : ByteArray) (b r1 r2 e2 : Bool) (er : Int) (w : World) (hc : ∀ W, Calls Tryz.prog 68 #[.string num] W fun e w' => e = .returned (.tuple #[.bool b, .string ds]) ∧ w' = W)
    (h1 : ∀ W, Calls Tryz.prog 69 #[.string ds] W fun e w' => e = .returned (.bool r1) ∧ w' = W) (h2 : ∀ W, Calls Tryz.prog 69 #[.string den] W fun e w' => e = .returned (.bool r2) ∧ w' = W)
    (z2 : (den.toList == [48]) = e2) (h : ((!r1 || !r2) = true ∧ er = 3) ∨ (r1 = true ∧ r2 = true ∧ e2 = true ∧ er = 8)) :
    Ans 15 #[.string num, .string den] w ⟨#[]⟩ ⟨#[]⟩ er := by
  unfold Ans
  obtain ⟨V, hV⟩ : ∃ V, V = w.alloc (.cells #[.string ⟨#[]⟩, .string ⟨#[]⟩] 23) := ⟨_, rfl⟩
  have hbV : Below w.heap.size w V := by rw [hV]; exact (Below.refl _ _).alloc (Nat.le_refl _) _
  have HR : Hid (T2 V w.heap.size (.string ⟨#[]⟩) (.string ⟨#[]⟩) ∧ Below w.heap.size w V) := ⟨by rw [hV]; exact ⟨by simp [go_sem], by simp [go_sem], by simp [go_sem], by simp [go_sem]⟩, hbV⟩
  have HV := hide hV
  have HC68 := hide (hc V); have HR1 := hide (h1 V); have HR2 := hide (h2 V)
  clear hc h1 h2 hbV
  go_enter Tryz.func15, Tryz.ntmps15
  go_upto_region 1 with fail
  rw [← unhide HV]
  clear hV HV
  have r0 := (unhide HR).1.c0; have q1 := (unhide HR).1.c1; have rf0 := (unhide HR).1.f0; have rf1 := (unhide HR).1.f1
  rcases h with ⟨hh, rfl⟩ | ⟨rfl, rfl, rfl, rfl⟩
  · cases r1 with
    | false =>
      clear hh z2
      go_wp2_with (first
        | (go_at_call 68; go_must (refine (unhide HC68).mono ?_; rintro e w1 ⟨rfl, hw1⟩; obtain rfl : V = w1 := hw1.symm))
        | (go_at_call_of 69 (Value.string ds); go_must (refine (unhide HR1).mono ?_; rintro e w1 ⟨rfl, hw1⟩; obtain rfl : V = w1 := hw1.symm))
        | (go_at_call 69; go_must (refine (unhide HR2).mono ?_; rintro e w1 ⟨rfl, hw1⟩; obtain rfl : V = w1 := hw1.symm)))
      have hS := (unhide HR).1.store (.string ⟨#[]⟩) (.string ⟨#[]⟩)
      have hb : Below w.heap.size w (store2 V (w.heap.size) (.string ⟨#[]⟩) (.string ⟨#[]⟩)) := below_store2 (unhide HR).2 (by omega) _ _
      have u0 := hS.c0; have u1 := hS.c1
      exact bodyPost_ret (v := .tuple #[.agg #[.string ⟨#[]⟩, .string ⟨#[]⟩], .int .i64 3]) (w := store2 V (w.heap.size) (.string ⟨#[]⟩) (.string ⟨#[]⟩)) (by simp [results, Tryz.results15, go_sem, u0, u1]) rfl ⟨rfl, hb⟩
    | true =>
      obtain rfl : r2 = false := by simpa using hh
      clear hh z2
      go_wp2_with (first
        | (go_at_call 68; go_must (refine (unhide HC68).mono ?_; rintro e w1 ⟨rfl, hw1⟩; obtain rfl : V = w1 := hw1.symm))
        | (go_at_call_of 69 (Value.string ds); go_must (refine (unhide HR1).mono ?_; rintro e w1 ⟨rfl, hw1⟩; obtain rfl : V = w1 := hw1.symm))
        | (go_at_call 69; go_must (refine (unhide HR2).mono ?_; rintro e w1 ⟨rfl, hw1⟩; obtain rfl : V = w1 := hw1.symm)))
      have hS := (unhide HR).1.store (.string ⟨#[]⟩) (.string ⟨#[]⟩)
      have hb : Below w.heap.size w (store2 V (w.heap.size) (.string ⟨#[]⟩) (.string ⟨#[]⟩)) := below_store2 (unhide HR).2 (by omega) _ _
      have u0 := hS.c0; have u1 := hS.c1
      exact bodyPost_ret (v := .tuple #[.agg #[.string ⟨#[]⟩, .string ⟨#[]⟩], .int .i64 3]) (w := store2 V (w.heap.size) (.string ⟨#[]⟩) (.string ⟨#[]⟩)) (by simp [results, Tryz.results15, go_sem, u0, u1]) rfl ⟨rfl, hb⟩
  · go_wp2_with (first
      | (go_at_call 68; go_must (refine (unhide HC68).mono ?_; rintro e w1 ⟨rfl, hw1⟩; obtain rfl : V = w1 := hw1.symm))
      | (go_at_call_of 69 (Value.string ds); go_must (refine (unhide HR1).mono ?_; rintro e w1 ⟨rfl, hw1⟩; obtain rfl : V = w1 := hw1.symm))
      | (go_at_call 69; go_must (refine (unhide HR2).mono ?_; rintro e w1 ⟨rfl, hw1⟩; obtain rfl : V = w1 := hw1.symm)))
    have hS := (unhide HR).1.store (.string ⟨#[]⟩) (.string ⟨#[]⟩)
    have hb : Below w.heap.size w (store2 V (w.heap.size) (.string ⟨#[]⟩) (.string ⟨#[]⟩)) := below_store2 (unhide HR).2 (by omega) _ _
    have u0 := hS.c0; have u1 := hS.c1
    exact bodyPost_ret (v := .tuple #[.agg #[.string ⟨#[]⟩, .string ⟨#[]⟩], .int .i64 8]) (w := store2 V (w.heap.size) (.string ⟨#[]⟩) (.string ⟨#[]⟩)) (by simp [results, Tryz.results15, go_sem, u0, u1]) rfl ⟨rfl, hb⟩
end Go.Proofs.YtoinadnpdbaamaaGreatDoor

namespace Go.Proofs.YtoinadnpdbaamaaGreatDoor
open Go.RowKit

set_option maxRecDepth 100000 in
set_option maxHeartbeats 2000000 in
theorem refLowest (b : Bool) (m n : Nat) (w : World) (hm : m < 10 ^ 600) (hn : n < 10 ^ 600) (hn0 : n ≠ 0) :
    Calls Tryz.prog 75 #[.bool b, .string (tb m), .string (tb n)] w fun r w' => r = .returned (.agg #[.bool (b && decide (m / Nat.gcd m n ≠ 0)), .string (tb (m / Nat.gcd m n)), .string (tb (n / Nat.gcd m n))]) ∧ Below w.heap.size w w' := by
  obtain ⟨V, hV⟩ : ∃ V, V = w.alloc (.cells #[.bool false, .string ⟨#[]⟩, .string ⟨#[]⟩] 61) := ⟨_, rfl⟩
  have hbV : Below w.heap.size w V := by rw [hV]; exact (Below.refl _ _).alloc (Nat.le_refl _) _
  have HR : Hid (FBox V w.heap.size (.bool false) (.string ⟨#[]⟩) (.string ⟨#[]⟩) ∧ Below w.heap.size w V) := ⟨by rw [hV]; exact ⟨by simp [go_sem], by simp [go_sem], by simp [go_sem], by simp [go_sem], by simp [go_sem], by simp [go_sem]⟩, hbV⟩
  have HV := hide hV
  by_cases h0 : m = 0
  · subst h0
    have z : ((tb 0).toList == [48]) = true := by rw [tb_eq48 0 hm]; rfl
    have e0 := (lit_tb ⟨#[48]⟩ 0 (by decide) (by decide)).1
    have e1 := (lit_tb ⟨#[49]⟩ 1 (by decide) (by decide)).1
    have HE : Hid ((Value.agg #[.bool (b && decide (0 / Nat.gcd 0 n ≠ 0)), .string (tb (0 / Nat.gcd 0 n)), .string (tb (n / Nat.gcd 0 n))]) = .agg #[.bool false, .string ⟨#[48]⟩, .string ⟨#[49]⟩]) := by
      show _ = _
      rw [Nat.gcd_zero_left, Nat.zero_div, Nat.div_self (by omega), ← e0, ← e1]; simp
    rw [unhide HE]
    clear e0 e1 hbV hm hn hn0 HE
    generalize tb 0 = s0 at *
    generalize tb n = sn at *
    go_enter Tryz.func75, Tryz.ntmps75
    go_upto_region 1 with fail
    rw [← unhide HV]
    clear hV HV
    have r0 := (unhide HR).1.c0; have r1 := (unhide HR).1.c1; have r2 := (unhide HR).1.c2; have rf0 := (unhide HR).1.f0; have rf1 := (unhide HR).1.f1; have rf2 := (unhide HR).1.f2
    go_wp2_with fail
    have hS := (unhide HR).1.store (.bool false) (.string ⟨#[48]⟩) (.string ⟨#[49]⟩)
    have hb : Below w.heap.size w (store3 V w.heap.size (.bool false) (.string ⟨#[48]⟩) (.string ⟨#[49]⟩)) := below_store3 (unhide HR).2 (Nat.le_refl _) _ _ _
    have u0 := hS.c0; have u1 := hS.c1; have u2 := hS.c2
    exact bodyPost_ret (v := .agg #[.bool false, .string ⟨#[48]⟩, .string ⟨#[49]⟩]) (w := store3 V w.heap.size (.bool false) (.string ⟨#[48]⟩) (.string ⟨#[49]⟩)) (by simp [results, Tryz.results75, go_sem, u0, u1, u2]) rfl ⟨rfl, hb⟩
  · have z : ((tb m).toList == [48]) = false := by rw [tb_eq48 m hm, beq_eq_false_iff_ne]; exact h0
    have hg0 : 0 < Nat.gcd m n := Nat.gcd_pos_of_pos_right _ (by omega)
    have hgl : Nat.gcd m n < 10 ^ 600 := Nat.lt_of_le_of_lt (Nat.gcd_le_right _ (by omega)) hn
    have hq0 : m / Nat.gcd m n ≠ 0 := by
      have := Nat.div_pos (Nat.gcd_le_left n (by omega : 0 < m)) hg0
      omega
    have HCM := hide (fun W => refCommon_any m n W hm hn)
    have HD1 := hide (fun W => refDivideN m (Nat.gcd m n) W hm hgl hg0)
    have HD2 := hide (fun W => refDivideN n (Nat.gcd m n) W hn hgl hg0)
    have HE : Hid ((b && decide (m / Nat.gcd m n ≠ 0)) = b) := by show _ = _; simp [hq0]
    rw [unhide HE]
    clear hbV hm hn hn0 HE hg0 hgl hq0 h0
    generalize tb (m / Nat.gcd m n) = q1 at *
    generalize tb (n / Nat.gcd m n) = q2 at *
    generalize tb (m % Nat.gcd m n) = q3 at *
    generalize tb (n % Nat.gcd m n) = q4 at *
    generalize tb (Nat.gcd m n) = sg at *
    generalize tb m = sm at *
    generalize tb n = sn at *
    go_enter Tryz.func75, Tryz.ntmps75
    go_upto_region 1 with fail
    rw [← unhide HV]
    clear hV HV
    go_upto_region 4 with (go_at_call 77; go_must (refine (unhide HCM _).mono ?_; rintro e w1 ⟨rfl, hb1⟩; have HR1 : Hid (FBox w1 w.heap.size (.bool false) (.string ⟨#[]⟩) (.string ⟨#[]⟩) ∧ Below w.heap.size w w1) := ⟨(unhide HR).1.later hb1, (unhide HR).2.trans (hb1.mono (unhide HR).2.size)⟩; clear hb1))
    go_upto_region 5 with (go_at_call 119; go_must (refine (unhide HD1 _).mono ?_; rintro e w2 ⟨rfl, hb2⟩; have HR2 : Hid (FBox w2 w.heap.size (.bool false) (.string ⟨#[]⟩) (.string ⟨#[]⟩) ∧ Below w.heap.size w w2) := ⟨(unhide HR1).1.later hb2, (unhide HR1).2.trans (hb2.mono (unhide HR1).2.size)⟩; clear hb2))
    go_upto_region 6 with (go_at_call 119; go_must (refine (unhide HD2 _).mono ?_; rintro e w3 ⟨rfl, hb3⟩; have HR3 : Hid (FBox w3 w.heap.size (.bool false) (.string ⟨#[]⟩) (.string ⟨#[]⟩) ∧ Below w.heap.size w w3) := ⟨(unhide HR2).1.later hb3, (unhide HR2).2.trans (hb3.mono (unhide HR2).2.size)⟩; clear hb3))
    have r0 := (unhide HR3).1.c0; have r1 := (unhide HR3).1.c1; have r2 := (unhide HR3).1.c2; have rf0 := (unhide HR3).1.f0; have rf1 := (unhide HR3).1.f1; have rf2 := (unhide HR3).1.f2
    go_wp2_with fail
    have hS := (unhide HR3).1.store (.bool b) (.string q1) (.string q2)
    have hb : Below w.heap.size w (store3 w3 w.heap.size (.bool b) (.string q1) (.string q2)) := below_store3 (unhide HR3).2 (Nat.le_refl _) _ _ _
    have u0 := hS.c0; have u1 := hS.c1; have u2 := hS.c2
    exact bodyPost_ret (v := .agg #[.bool b, .string q1, .string q2]) (w := store3 w3 w.heap.size (.bool b) (.string q1) (.string q2)) (by simp [results, Tryz.results75, go_sem, u0, u1, u2]) rfl ⟨rfl, hb⟩

set_option maxRecDepth 100000 in
set_option maxHeartbeats 2000000 in
theorem refTold (b : Bool) (s t : ByteArray) (w : World) (hs : s.size ≤ 600) (ht : t.size ≤ 600) :
    Ans 74 #[.agg #[.bool b, .string s, .string t]] w (if b then ⟨#[45]⟩ ++ s else s) t 0 := by
  unfold Ans
  obtain ⟨V, hV⟩ : ∃ V, V = (w.alloc (.cells #[.bool b, .string s, .string t] 61)).alloc (.cells #[.string ⟨#[]⟩, .string ⟨#[]⟩] 23) := ⟨_, rfl⟩
  have hbV : Below w.heap.size w V := by rw [hV]; exact ((Below.refl _ _).alloc (Nat.le_refl _) _).alloc (by simp) _
  have HR : Hid (T2 V (w.heap.size + 1) (.string ⟨#[]⟩) (.string ⟨#[]⟩) ∧ Below w.heap.size w V) := ⟨by rw [hV]; exact ⟨by simp [go_sem], by simp [go_sem], by simp [go_sem], by simp [go_sem]⟩, hbV⟩
  have HF : Hid (FBox V w.heap.size (.bool b) (.string s) (.string t)) := by rw [hV]; exact ⟨by simp [go_sem], by simp [go_sem], by simp [go_sem], by simp [go_sem], by simp [go_sem], by simp [go_sem]⟩
  have HV := hide hV
  have hl : (⟨#[45]⟩ : ByteArray).size = 1 := rfl
  clear hbV
  have t0 := (unhide HF).c0; have t1 := (unhide HF).c1; have t2 := (unhide HF).c2
  have r0 := (unhide HR).1.c0; have r1 := (unhide HR).1.c1; have rf0 := (unhide HR).1.f0; have rf1 := (unhide HR).1.f1
  cases b with
  | true =>
    have HE : Hid ((if true = true then (⟨#[45]⟩ : ByteArray) ++ s else s) = ⟨#[45]⟩ ++ s) := rfl
    rw [unhide HE]
    clear HE
    go_enter Tryz.func74, Tryz.ntmps74
    go_upto_region 1 with fail
    rw [← unhide HV]
    clear hV HV
    go_wp2_with fail
    have hS := (unhide HR).1.store (.string (⟨#[45]⟩ ++ s)) (.string t)
    have hb : Below w.heap.size w (store2 V (w.heap.size + 1) (.string (⟨#[45]⟩ ++ s)) (.string t)) := below_store2 (unhide HR).2 (by omega) _ _
    have u0 := hS.c0; have u1 := hS.c1
    exact bodyPost_ret (v := .tuple #[.agg #[.string (⟨#[45]⟩ ++ s), .string t], .int .i64 0]) (w := store2 V (w.heap.size + 1) (.string (⟨#[45]⟩ ++ s)) (.string t)) (by simp [results, Tryz.results74, go_sem, u0, u1]) rfl ⟨rfl, hb⟩
  | false =>
    have HE : Hid ((if false = true then (⟨#[45]⟩ : ByteArray) ++ s else s) = s) := rfl
    rw [unhide HE]
    clear HE
    go_enter Tryz.func74, Tryz.ntmps74
    go_upto_region 1 with fail
    rw [← unhide HV]
    clear hV HV
    go_wp2_with fail
    have hS := (unhide HR).1.store (.string s) (.string t)
    have hb : Below w.heap.size w (store2 V (w.heap.size + 1) (.string s) (.string t)) := below_store2 (unhide HR).2 (by omega) _ _
    have u0 := hS.c0; have u1 := hS.c1
    exact bodyPost_ret (v := .tuple #[.agg #[.string s, .string t], .int .i64 0]) (w := store2 V (w.heap.size + 1) (.string s) (.string t)) (by simp [results, Tryz.results74, go_sem, u0, u1]) rfl ⟨rfl, hb⟩

set_option maxRecDepth 100000 in
set_option maxHeartbeats 4000000 in
theorem refNew_walk (num den ds rn rd : ByteArray) (b r1 r2 e2 : Bool) (er : Int) (w : World) (hm : num.size ≤ 9223372036854775807)
    (hneg : (b = true ∧ 0 < num.size ∧ num.toList.isEmpty = false ∧ (∀ h : 0 < num.size, (num[0].toNat : Int) = 45) ∧ num.extract 1 num.size = ds) ∨ (b = false ∧ ds = num ∧ (num.toList.isEmpty = true ∨ (0 < num.size ∧ num.toList.isEmpty = false ∧ ∀ h : 0 < num.size, ((num[0].toNat : Int) == 45) = false))))
    (h1 : ∀ W, Calls Tryz.prog 73 #[.string ds] W fun e w' => e = .returned (.bool r1) ∧ w' = W) (h2 : ∀ W, Calls Tryz.prog 73 #[.string den] W fun e w' => e = .returned (.bool r2) ∧ w' = W)
    (z2 : (den.toList == [48]) = e2)
    (hlo : r1 = true → r2 = true → e2 = false → ∃ v, (∀ W, Calls Tryz.prog 75 #[.bool b, .string ds, .string den] W fun r w' => r = .returned v ∧ Below W.heap.size W w') ∧ ∀ W, Calls Tryz.prog 74 #[v] W fun r w' => r = .returned (.tuple #[.agg #[.string rn, .string rd], .int .i64 0]) ∧ Below W.heap.size W w')
    (h : ((!r1 || !r2) = true ∧ er = 3 ∧ rn = ⟨#[]⟩ ∧ rd = ⟨#[]⟩) ∨ (r1 = true ∧ r2 = true ∧ e2 = true ∧ er = 8 ∧ rn = ⟨#[]⟩ ∧ rd = ⟨#[]⟩) ∨ (r1 = true ∧ r2 = true ∧ e2 = false ∧ er = 0)) :
    Ans 16 #[.string num, .string den] w rn rd er := by
  unfold Ans
  obtain ⟨V, hV⟩ : ∃ V, V = w.alloc (.cells #[.string ⟨#[]⟩, .string ⟨#[]⟩] 23) := ⟨_, rfl⟩
  have hbV : Below w.heap.size w V := by rw [hV]; exact (Below.refl _ _).alloc (Nat.le_refl _) _
  have HR : Hid (T2 V w.heap.size (.string ⟨#[]⟩) (.string ⟨#[]⟩) ∧ Below w.heap.size w V) := ⟨by rw [hV]; exact ⟨by simp [go_sem], by simp [go_sem], by simp [go_sem], by simp [go_sem]⟩, hbV⟩
  have HV := hide hV
  have H1 := hide h1
  have H2 := hide h2
  clear h1 h2 hbV
  rcases hneg with ⟨rfl, hp, he, h45, hds⟩ | ⟨rfl, rfl, hpos⟩
  · have h45' := h45 hp
    have hs' : (0 : Int) < (num.size : Int) := by omega
    have HDS := hide hds
    clear hds h45
    go_enter Tryz.func16, Tryz.ntmps16
    go_upto_region 4 with fail
    rw [unhide HDS, ← unhide HV]
    clear hV HV HDS h45' hs' hp he
    rcases h with ⟨hh, rfl, rfl, rfl⟩ | ⟨rfl, rfl, rfl, rfl, rfl, rfl⟩ | ⟨rfl, rfl, rfl, rfl⟩
    · clear hlo
      have r0 := (unhide HR).1.c0; have q1 := (unhide HR).1.c1; have rf0 := (unhide HR).1.f0; have rf1 := (unhide HR).1.f1
      cases r1 with
      | false =>
        clear hh z2
        go_wp2_with (first
        | (go_at_call_of 73 (Value.string ds); go_must (refine (unhide H1 _).mono ?_; rintro e w1 ⟨rfl, hw1⟩; obtain rfl : V = w1 := hw1.symm))
        | (go_at_call 73; go_must (refine (unhide H2 _).mono ?_; rintro e w1 ⟨rfl, hw1⟩; obtain rfl : V = w1 := hw1.symm)))
        have hS := (unhide HR).1.store (.string ⟨#[]⟩) (.string ⟨#[]⟩)
        have hb : Below w.heap.size w (store2 V (w.heap.size) (.string ⟨#[]⟩) (.string ⟨#[]⟩)) := below_store2 (unhide HR).2 (by omega) _ _
        have u0 := hS.c0; have u1 := hS.c1
        exact bodyPost_ret (v := .tuple #[.agg #[.string ⟨#[]⟩, .string ⟨#[]⟩], .int .i64 3]) (w := store2 V (w.heap.size) (.string ⟨#[]⟩) (.string ⟨#[]⟩)) (by simp [results, Tryz.results16, go_sem, u0, u1]) rfl ⟨rfl, hb⟩
      | true =>
        obtain rfl : r2 = false := by simpa using hh
        clear hh z2
        go_wp2_with (first
        | (go_at_call_of 73 (Value.string ds); go_must (refine (unhide H1 _).mono ?_; rintro e w1 ⟨rfl, hw1⟩; obtain rfl : V = w1 := hw1.symm))
        | (go_at_call 73; go_must (refine (unhide H2 _).mono ?_; rintro e w1 ⟨rfl, hw1⟩; obtain rfl : V = w1 := hw1.symm)))
        have hS := (unhide HR).1.store (.string ⟨#[]⟩) (.string ⟨#[]⟩)
        have hb : Below w.heap.size w (store2 V (w.heap.size) (.string ⟨#[]⟩) (.string ⟨#[]⟩)) := below_store2 (unhide HR).2 (by omega) _ _
        have u0 := hS.c0; have u1 := hS.c1
        exact bodyPost_ret (v := .tuple #[.agg #[.string ⟨#[]⟩, .string ⟨#[]⟩], .int .i64 3]) (w := store2 V (w.heap.size) (.string ⟨#[]⟩) (.string ⟨#[]⟩)) (by simp [results, Tryz.results16, go_sem, u0, u1]) rfl ⟨rfl, hb⟩
    · clear hlo
      have r0 := (unhide HR).1.c0; have q1 := (unhide HR).1.c1; have rf0 := (unhide HR).1.f0; have rf1 := (unhide HR).1.f1
      go_wp2_with (first
        | (go_at_call_of 73 (Value.string ds); go_must (refine (unhide H1 _).mono ?_; rintro e w1 ⟨rfl, hw1⟩; obtain rfl : V = w1 := hw1.symm))
        | (go_at_call 73; go_must (refine (unhide H2 _).mono ?_; rintro e w1 ⟨rfl, hw1⟩; obtain rfl : V = w1 := hw1.symm)))
      have hS := (unhide HR).1.store (.string ⟨#[]⟩) (.string ⟨#[]⟩)
      have hb : Below w.heap.size w (store2 V (w.heap.size) (.string ⟨#[]⟩) (.string ⟨#[]⟩)) := below_store2 (unhide HR).2 (by omega) _ _
      have u0 := hS.c0; have u1 := hS.c1
      exact bodyPost_ret (v := .tuple #[.agg #[.string ⟨#[]⟩, .string ⟨#[]⟩], .int .i64 8]) (w := store2 V (w.heap.size) (.string ⟨#[]⟩) (.string ⟨#[]⟩)) (by simp [results, Tryz.results16, go_sem, u0, u1]) rfl ⟨rfl, hb⟩
    · obtain ⟨v, l5, l4⟩ := hlo rfl rfl rfl
      have HL5 := hide l5; have HL4 := hide l4
      clear hlo l5 l4
      go_wp2_with (first
        | (go_at_call_of 73 (Value.string ds); go_must (refine (unhide H1 _).mono ?_; rintro e w1 ⟨rfl, hw1⟩; obtain rfl : V = w1 := hw1.symm))
        | (go_at_call 73; go_must (refine (unhide H2 _).mono ?_; rintro e w1 ⟨rfl, hw1⟩; obtain rfl : V = w1 := hw1.symm))
        | (go_at_call 75; go_must (refine (unhide HL5 _).mono ?_; rintro e w2 ⟨rfl, hb2⟩; have HR2 : Hid (T2 w2 w.heap.size (.string ⟨#[]⟩) (.string ⟨#[]⟩) ∧ Below w.heap.size w w2) := ⟨(unhide HR).1.later hb2, (unhide HR).2.trans (hb2.mono (unhide HR).2.size)⟩; clear hb2))
        | (go_at_call 74; go_must (refine (unhide HL4 _).mono ?_; rintro e w3 ⟨rfl, hb3⟩; have HR3 : Hid (T2 w3 w.heap.size (.string ⟨#[]⟩) (.string ⟨#[]⟩) ∧ Below w.heap.size w w3) := ⟨(unhide HR2).1.later hb3, (unhide HR2).2.trans (hb3.mono (unhide HR2).2.size)⟩; clear hb3; have r0 := (unhide HR3).1.c0; have r1' := (unhide HR3).1.c1; have rf0 := (unhide HR3).1.f0; have rf1 := (unhide HR3).1.f1)))
      have hS := (unhide HR3).1.store (.string rn) (.string rd)
      have hb : Below w.heap.size w (store2 w3 (w.heap.size) (.string rn) (.string rd)) := below_store2 (unhide HR3).2 (by omega) _ _
      have u0 := hS.c0; have u1 := hS.c1
      exact bodyPost_ret (v := .tuple #[.agg #[.string rn, .string rd], .int .i64 0]) (w := store2 w3 (w.heap.size) (.string rn) (.string rd)) (by simp [results, Tryz.results16, go_sem, u0, u1]) rfl ⟨rfl, hb⟩
  · rcases hpos with he | ⟨hp, he, h45⟩
    · go_enter Tryz.func16, Tryz.ntmps16
      go_upto_region 4 with fail
      rw [← unhide HV]
      clear hV HV he
      rcases h with ⟨hh, rfl, rfl, rfl⟩ | ⟨rfl, rfl, rfl, rfl, rfl, rfl⟩ | ⟨rfl, rfl, rfl, rfl⟩
      · clear hlo
        have r0 := (unhide HR).1.c0; have q1 := (unhide HR).1.c1; have rf0 := (unhide HR).1.f0; have rf1 := (unhide HR).1.f1
        cases r1 with
        | false =>
          clear hh z2
          go_wp2_with (first
        | (go_at_call_of 73 (Value.string ds); go_must (refine (unhide H1 _).mono ?_; rintro e w1 ⟨rfl, hw1⟩; obtain rfl : V = w1 := hw1.symm))
        | (go_at_call 73; go_must (refine (unhide H2 _).mono ?_; rintro e w1 ⟨rfl, hw1⟩; obtain rfl : V = w1 := hw1.symm)))
          have hS := (unhide HR).1.store (.string ⟨#[]⟩) (.string ⟨#[]⟩)
          have hb : Below w.heap.size w (store2 V (w.heap.size) (.string ⟨#[]⟩) (.string ⟨#[]⟩)) := below_store2 (unhide HR).2 (by omega) _ _
          have u0 := hS.c0; have u1 := hS.c1
          exact bodyPost_ret (v := .tuple #[.agg #[.string ⟨#[]⟩, .string ⟨#[]⟩], .int .i64 3]) (w := store2 V (w.heap.size) (.string ⟨#[]⟩) (.string ⟨#[]⟩)) (by simp [results, Tryz.results16, go_sem, u0, u1]) rfl ⟨rfl, hb⟩
        | true =>
          obtain rfl : r2 = false := by simpa using hh
          clear hh z2
          go_wp2_with (first
        | (go_at_call_of 73 (Value.string ds); go_must (refine (unhide H1 _).mono ?_; rintro e w1 ⟨rfl, hw1⟩; obtain rfl : V = w1 := hw1.symm))
        | (go_at_call 73; go_must (refine (unhide H2 _).mono ?_; rintro e w1 ⟨rfl, hw1⟩; obtain rfl : V = w1 := hw1.symm)))
          have hS := (unhide HR).1.store (.string ⟨#[]⟩) (.string ⟨#[]⟩)
          have hb : Below w.heap.size w (store2 V (w.heap.size) (.string ⟨#[]⟩) (.string ⟨#[]⟩)) := below_store2 (unhide HR).2 (by omega) _ _
          have u0 := hS.c0; have u1 := hS.c1
          exact bodyPost_ret (v := .tuple #[.agg #[.string ⟨#[]⟩, .string ⟨#[]⟩], .int .i64 3]) (w := store2 V (w.heap.size) (.string ⟨#[]⟩) (.string ⟨#[]⟩)) (by simp [results, Tryz.results16, go_sem, u0, u1]) rfl ⟨rfl, hb⟩
      · clear hlo
        have r0 := (unhide HR).1.c0; have q1 := (unhide HR).1.c1; have rf0 := (unhide HR).1.f0; have rf1 := (unhide HR).1.f1
        go_wp2_with (first
        | (go_at_call_of 73 (Value.string ds); go_must (refine (unhide H1 _).mono ?_; rintro e w1 ⟨rfl, hw1⟩; obtain rfl : V = w1 := hw1.symm))
        | (go_at_call 73; go_must (refine (unhide H2 _).mono ?_; rintro e w1 ⟨rfl, hw1⟩; obtain rfl : V = w1 := hw1.symm)))
        have hS := (unhide HR).1.store (.string ⟨#[]⟩) (.string ⟨#[]⟩)
        have hb : Below w.heap.size w (store2 V (w.heap.size) (.string ⟨#[]⟩) (.string ⟨#[]⟩)) := below_store2 (unhide HR).2 (by omega) _ _
        have u0 := hS.c0; have u1 := hS.c1
        exact bodyPost_ret (v := .tuple #[.agg #[.string ⟨#[]⟩, .string ⟨#[]⟩], .int .i64 8]) (w := store2 V (w.heap.size) (.string ⟨#[]⟩) (.string ⟨#[]⟩)) (by simp [results, Tryz.results16, go_sem, u0, u1]) rfl ⟨rfl, hb⟩
      · obtain ⟨v, l5, l4⟩ := hlo rfl rfl rfl
        have HL5 := hide l5; have HL4 := hide l4
        clear hlo l5 l4
        go_wp2_with (first
        | (go_at_call_of 73 (Value.string ds); go_must (refine (unhide H1 _).mono ?_; rintro e w1 ⟨rfl, hw1⟩; obtain rfl : V = w1 := hw1.symm))
        | (go_at_call 73; go_must (refine (unhide H2 _).mono ?_; rintro e w1 ⟨rfl, hw1⟩; obtain rfl : V = w1 := hw1.symm))
        | (go_at_call 75; go_must (refine (unhide HL5 _).mono ?_; rintro e w2 ⟨rfl, hb2⟩; have HR2 : Hid (T2 w2 w.heap.size (.string ⟨#[]⟩) (.string ⟨#[]⟩) ∧ Below w.heap.size w w2) := ⟨(unhide HR).1.later hb2, (unhide HR).2.trans (hb2.mono (unhide HR).2.size)⟩; clear hb2))
        | (go_at_call 74; go_must (refine (unhide HL4 _).mono ?_; rintro e w3 ⟨rfl, hb3⟩; have HR3 : Hid (T2 w3 w.heap.size (.string ⟨#[]⟩) (.string ⟨#[]⟩) ∧ Below w.heap.size w w3) := ⟨(unhide HR2).1.later hb3, (unhide HR2).2.trans (hb3.mono (unhide HR2).2.size)⟩; clear hb3; have r0 := (unhide HR3).1.c0; have r1' := (unhide HR3).1.c1; have rf0 := (unhide HR3).1.f0; have rf1 := (unhide HR3).1.f1)))
        have hS := (unhide HR3).1.store (.string rn) (.string rd)
        have hb : Below w.heap.size w (store2 w3 (w.heap.size) (.string rn) (.string rd)) := below_store2 (unhide HR3).2 (by omega) _ _
        have u0 := hS.c0; have u1 := hS.c1
        exact bodyPost_ret (v := .tuple #[.agg #[.string rn, .string rd], .int .i64 0]) (w := store2 w3 (w.heap.size) (.string rn) (.string rd)) (by simp [results, Tryz.results16, go_sem, u0, u1]) rfl ⟨rfl, hb⟩
    · have h45' := h45 hp
      have hs' : (0 : Int) < (ds.size : Int) := by omega
      clear h45
      go_enter Tryz.func16, Tryz.ntmps16
      go_upto_region 4 with fail
      rw [← unhide HV]
      clear hV HV h45' hs' he
      rcases h with ⟨hh, rfl, rfl, rfl⟩ | ⟨rfl, rfl, rfl, rfl, rfl, rfl⟩ | ⟨rfl, rfl, rfl, rfl⟩
      · clear hlo
        have r0 := (unhide HR).1.c0; have q1 := (unhide HR).1.c1; have rf0 := (unhide HR).1.f0; have rf1 := (unhide HR).1.f1
        cases r1 with
        | false =>
          clear hh z2
          go_wp2_with (first
        | (go_at_call_of 73 (Value.string ds); go_must (refine (unhide H1 _).mono ?_; rintro e w1 ⟨rfl, hw1⟩; obtain rfl : V = w1 := hw1.symm))
        | (go_at_call 73; go_must (refine (unhide H2 _).mono ?_; rintro e w1 ⟨rfl, hw1⟩; obtain rfl : V = w1 := hw1.symm)))
          have hS := (unhide HR).1.store (.string ⟨#[]⟩) (.string ⟨#[]⟩)
          have hb : Below w.heap.size w (store2 V (w.heap.size) (.string ⟨#[]⟩) (.string ⟨#[]⟩)) := below_store2 (unhide HR).2 (by omega) _ _
          have u0 := hS.c0; have u1 := hS.c1
          exact bodyPost_ret (v := .tuple #[.agg #[.string ⟨#[]⟩, .string ⟨#[]⟩], .int .i64 3]) (w := store2 V (w.heap.size) (.string ⟨#[]⟩) (.string ⟨#[]⟩)) (by simp [results, Tryz.results16, go_sem, u0, u1]) rfl ⟨rfl, hb⟩
        | true =>
          obtain rfl : r2 = false := by simpa using hh
          clear hh z2
          go_wp2_with (first
        | (go_at_call_of 73 (Value.string ds); go_must (refine (unhide H1 _).mono ?_; rintro e w1 ⟨rfl, hw1⟩; obtain rfl : V = w1 := hw1.symm))
        | (go_at_call 73; go_must (refine (unhide H2 _).mono ?_; rintro e w1 ⟨rfl, hw1⟩; obtain rfl : V = w1 := hw1.symm)))
          have hS := (unhide HR).1.store (.string ⟨#[]⟩) (.string ⟨#[]⟩)
          have hb : Below w.heap.size w (store2 V (w.heap.size) (.string ⟨#[]⟩) (.string ⟨#[]⟩)) := below_store2 (unhide HR).2 (by omega) _ _
          have u0 := hS.c0; have u1 := hS.c1
          exact bodyPost_ret (v := .tuple #[.agg #[.string ⟨#[]⟩, .string ⟨#[]⟩], .int .i64 3]) (w := store2 V (w.heap.size) (.string ⟨#[]⟩) (.string ⟨#[]⟩)) (by simp [results, Tryz.results16, go_sem, u0, u1]) rfl ⟨rfl, hb⟩
      · clear hlo
        have r0 := (unhide HR).1.c0; have q1 := (unhide HR).1.c1; have rf0 := (unhide HR).1.f0; have rf1 := (unhide HR).1.f1
        go_wp2_with (first
        | (go_at_call_of 73 (Value.string ds); go_must (refine (unhide H1 _).mono ?_; rintro e w1 ⟨rfl, hw1⟩; obtain rfl : V = w1 := hw1.symm))
        | (go_at_call 73; go_must (refine (unhide H2 _).mono ?_; rintro e w1 ⟨rfl, hw1⟩; obtain rfl : V = w1 := hw1.symm)))
        have hS := (unhide HR).1.store (.string ⟨#[]⟩) (.string ⟨#[]⟩)
        have hb : Below w.heap.size w (store2 V (w.heap.size) (.string ⟨#[]⟩) (.string ⟨#[]⟩)) := below_store2 (unhide HR).2 (by omega) _ _
        have u0 := hS.c0; have u1 := hS.c1
        exact bodyPost_ret (v := .tuple #[.agg #[.string ⟨#[]⟩, .string ⟨#[]⟩], .int .i64 8]) (w := store2 V (w.heap.size) (.string ⟨#[]⟩) (.string ⟨#[]⟩)) (by simp [results, Tryz.results16, go_sem, u0, u1]) rfl ⟨rfl, hb⟩
      · obtain ⟨v, l5, l4⟩ := hlo rfl rfl rfl
        have HL5 := hide l5; have HL4 := hide l4
        clear hlo l5 l4
        go_wp2_with (first
        | (go_at_call_of 73 (Value.string ds); go_must (refine (unhide H1 _).mono ?_; rintro e w1 ⟨rfl, hw1⟩; obtain rfl : V = w1 := hw1.symm))
        | (go_at_call 73; go_must (refine (unhide H2 _).mono ?_; rintro e w1 ⟨rfl, hw1⟩; obtain rfl : V = w1 := hw1.symm))
        | (go_at_call 75; go_must (refine (unhide HL5 _).mono ?_; rintro e w2 ⟨rfl, hb2⟩; have HR2 : Hid (T2 w2 w.heap.size (.string ⟨#[]⟩) (.string ⟨#[]⟩) ∧ Below w.heap.size w w2) := ⟨(unhide HR).1.later hb2, (unhide HR).2.trans (hb2.mono (unhide HR).2.size)⟩; clear hb2))
        | (go_at_call 74; go_must (refine (unhide HL4 _).mono ?_; rintro e w3 ⟨rfl, hb3⟩; have HR3 : Hid (T2 w3 w.heap.size (.string ⟨#[]⟩) (.string ⟨#[]⟩) ∧ Below w.heap.size w w3) := ⟨(unhide HR2).1.later hb3, (unhide HR2).2.trans (hb3.mono (unhide HR2).2.size)⟩; clear hb3; have r0 := (unhide HR3).1.c0; have r1' := (unhide HR3).1.c1; have rf0 := (unhide HR3).1.f0; have rf1 := (unhide HR3).1.f1)))
        have hS := (unhide HR3).1.store (.string rn) (.string rd)
        have hb : Below w.heap.size w (store2 w3 (w.heap.size) (.string rn) (.string rd)) := below_store2 (unhide HR3).2 (by omega) _ _
        have u0 := hS.c0; have u1 := hS.c1
        exact bodyPost_ret (v := .tuple #[.agg #[.string rn, .string rd], .int .i64 0]) (w := store2 w3 (w.heap.size) (.string rn) (.string rd)) (by simp [results, Tryz.results16, go_sem, u0, u1]) rfl ⟨rfl, hb⟩
end Go.Proofs.YtoinadnpdbaamaaGreatDoor

namespace Go.Proofs.YtoinadnpdbaamaaGreatDoor
open Go.RowKit Go.Sort

theorem below_grow (w : World) (k : Nat) (os : Array Obj) : Below w.heap.size w (grow (w.drewN k) os) := by
  refine ⟨rfl, rfl, rfl, ?_, fun i hi => ?_⟩
  · simp [grow, World.drewN]
  · simp only [grow]
    rw [Array.getElem?_append_left (by simpa [World.drewN] using hi)]; rfl

set_option maxHeartbeats 6400000 in
set_option maxRecDepth 100000 in
theorem intFormatUint_any (u : Nat) (hu64 : u < 18446744073709551616) (w : World) (htab : Tab w) :
    Calls Tryz.prog 169 #[.int .u64 u, .int .i64 10] w fun e w' => e = .returned (.string ⟨(Lib.decDigits u).toArray⟩) ∧ Below w.heap.size w w' := by
  by_cases hs : u < 100
  · clear htab
    go_enter Tryz.func169, Tryz.ntmps169
    go_wp2_with (go_at_call 190; refine (Tryz.internal_strconv_small u hs _).mono ?_; rintro e w' ⟨rfl, rfl⟩)
    go_ret
    exact ⟨rfl, Below.refl _ _⟩
  · have hu1 : 1 ≤ u := by omega
    have hnd20 : Lib.nDigits u ≤ 20 := by have := Lib.numDigits_eq u hu1 hu64; split at this <;> omega
    have hal : Tryz.prog.arrayLen 186 = 24 := by kernel_rfl
    have hsl : ∀ W, (Instr.sliceAt 186 (.pointer (some ⟨w.heap.size, 0, none⟩)) none (some (.int .i64 (Lib.nDigits u : Int))) none).run Tryz.prog W = .ok (.slice (some ⟨w.heap.size, 0, none⟩) (Lib.nDigits u) 24) W := fun W => by
      rw [run_sliceAt_array_h W 186 ⟨w.heap.size, 0, none⟩ (by kernel_rfl) .i64 (Lib.nDigits u : Int) (by omega) (by rw [hal]; omega)]
      go_simp
    have hH0 := Lib.holds_zero0 w 186 (Lib.nDigits u) (by omega)
    have hfmt := Tryz.internal_strconv_formatBase10 w.heap.size 0 24 u (Array.replicate (Lib.nDigits u) 0) (w.alloc (.cells Lib.zeros24 186)) hH0 (by rw [Array.size_replicate]; exact Lib.lt_pow_nDigits u) hu64 (by rw [Array.size_replicate]; omega)
    rw [Array.size_replicate] at hfmt
    have HH0 := Lib.hid hH0
    have HT := hide htab
    have iu : (100 : Int) ≤ (u : Int) := by omega
    clear hH0 hal htab
    go_enter Tryz.func169, Tryz.ntmps169
    go_wp2_with (first
      | (go_at_call 191; refine (Tryz.internal_strconv_numDigits u hu1 hu64 _ (Lib.tabIs_alloc (unhide HT) _)).mono ?_; rintro e w' ⟨rfl, rfl⟩))
    go_at_call 192
    refine hfmt.mono ?_
    rintro e w' ⟨rfl, k, v', dk, rfl, hF⟩
    have hcv : (convert 130 9 (.slice (some ⟨w.heap.size, 0, none⟩) (Lib.nDigits u) 24)).run Tryz.prog ((putRow (fun (b : UInt8) => Value.int .u8 (b.toNat : Int)) (w.alloc (.cells Lib.zeros24 186)) w.heap.size 0 dk).drewN k) = .ok (.string ⟨(Lib.decDigits u).toArray⟩) ((putRow (fun (b : UInt8) => Value.int .u8 (b.toNat : Int)) (w.alloc (.cells Lib.zeros24 186)) w.heap.size 0 dk).drewN k) := by
      have h := run_convert_bytes_back (P := Tryz.prog) ((putRow (fun (b : UInt8) => Value.int .u8 (b.toNat : Int)) (w.alloc (.cells Lib.zeros24 186)) w.heap.size 0 dk).drewN k) 130 9 5 ⟨w.heap.size, 0, none⟩ 24 (Lib.decDigits u) Tryz.underlying130 Tryz.underlying5 Tryz.underlying9 (fun j hj => by
        rw [Lib.row_is_numeral hF j hj, Lib.add_plain, World.cell?_drewN]
        exact cell?_putRow (fun (b : UInt8) => Value.int .u8 (b.toNat : Int)) _ w.heap.size 0 _ dk HH0.out (by rw [hF.size, Array.size_replicate]) j (by rw [hF.size]; rw [Lib.decDigits_length] at hj; exact hj))
      rw [Lib.decDigits_length] at h
      exact h
    go_wp2
    go_ret
    refine ⟨rfl, ?_⟩
    obtain ⟨os', _, e⟩ := putRow_grow_new (fun (b : UInt8) => Value.int .u8 (b.toNat : Int)) w #[.cells Lib.zeros24 186] w.heap.size 0 dk (Nat.le_refl _)
    have e2 : (putRow (fun (b : UInt8) => Value.int .u8 (b.toNat : Int)) (w.alloc (.cells Lib.zeros24 186)) w.heap.size 0 dk).drewN k = grow (w.drewN k) os' := by
      rw [alloc_eq_grow, e]; rfl
    rw [e2]
    exact below_grow w k os'

theorem formatUint_any (u : Nat) (hu64 : u < 18446744073709551616) (w : World) (htab : Tab w) :
    Calls Tryz.prog 132 #[.int .u64 u, .int .i64 10] w fun e w' => e = .returned (.string ⟨(Lib.decDigits u).toArray⟩) ∧ Below w.heap.size w w' := by
  have HT := hide htab
  clear htab
  go_enter Tryz.func132, Tryz.ntmps132
  go_wp2_with (go_at_call 169; refine (intFormatUint_any u hu64 _ (unhide HT)).mono ?_; rintro e w' ⟨rfl, hb⟩)
  go_ret
  exact ⟨rfl, hb⟩
theorem natOf_any (u : Nat) (hu64 : u < 18446744073709551616) (w : World) (htab : Tab w) :
    Calls Tryz.prog 79 #[.int .u64 u] w fun e w' => e = .returned (.string ⟨(Lib.decDigits u).toArray⟩) ∧ Below w.heap.size w w' := by
  have HT := hide htab
  clear htab
  go_enter Tryz.func79, Tryz.ntmps79
  go_wp2_with (go_at_call 132; refine (formatUint_any u hu64 _ (unhide HT)).mono ?_; rintro e w' ⟨rfl, hb⟩)
  go_ret
  exact ⟨rfl, hb⟩
end Go.Proofs.YtoinadnpdbaamaaGreatDoor

namespace Go.Proofs.YtoinadnpdbaamaaGreatDoor
open Go.RowKit

theorem one_byte (wr : World) (c : Nat) (hc : c < 10) : (convert 130 9 (.slice (some ⟨wr.heap.size, 0, none⟩) 1 1)).run Tryz.prog (wr.alloc (.cells #[.int .u8 (48 + (c : Int))] 5)) = .ok (.string ⟨#[UInt8.ofNat (48 + c)]⟩) (wr.alloc (.cells #[.int .u8 (48 + (c : Int))] 5)) := by
  have h := run_convert_bytes_back (P := Tryz.prog) (wr.alloc (.cells #[.int .u8 (48 + (c : Int))] 5)) 130 9 5 ⟨wr.heap.size, 0, none⟩ 1 [UInt8.ofNat (48 + c)] Tryz.underlying130 Tryz.underlying5 Tryz.underlying9 (fun j hj => by
    have : j = 0 := by simpa using hj
    subst this
    rw [Lib.add_plain]
    simp only [List.getElem_cons_zero, Cub.toNat_dig c hc]
    simp [go_sem])
  exact h

theorem append_one (b : UInt8) (T : List UInt8) : (⟨([b] ++ T).toArray⟩ : ByteArray) = ⟨#[b]⟩ ++ ⟨T.toArray⟩ := by
  apply ByteArray.ext
  simp

theorem dval_take (l : List UInt8) (k : Nat) : Cub.dval (l.take k) ≤ Cub.dval l := by
  have h := Cub.dval_append (l.take k) (l.drop k)
  rw [List.take_append_drop] at h
  have : Cub.dval (l.take k) * 1 ≤ Cub.dval (l.take k) * 10 ^ (l.drop k).length := Nat.mul_le_mul_left _ (Nat.one_le_pow _ _ (by decide))
  omega

theorem max_nat : Cub.isNat (⟨#[49, 56, 52, 52, 54, 55, 52, 52, 48, 55, 51, 55, 48, 57, 53, 53, 49, 54, 49, 53]⟩ : ByteArray).data.toList := (Cub.natB_iff _).1 (by decide +kernel)
theorem max_val : Cub.dval (⟨#[49, 56, 52, 52, 54, 55, 52, 52, 48, 55, 51, 55, 48, 57, 53, 53, 49, 54, 49, 53]⟩ : ByteArray).data.toList = 18446744073709551615 := by decide +kernel

set_option maxRecDepth 100000 in
set_option maxHeartbeats 400000 in
theorem refOf_any (u : Nat) (hu : u < 18446744073709551616) (w : World) :
    Calls Tryz.prog 125 #[.int .u64 u] w fun e w' => e = .returned (.string ⟨(Lib.decDigits u).toArray⟩) ∧ Below w.heap.size w w' := by
  go_enter Tryz.func125, Tryz.ntmps125
  go_wp2
  go_loopw [0, 3] (fun n s wr => ∃ (q : Nat) (T : List UInt8), n = .int .u64 (q : Int) ∧ s = .string ⟨T.toArray⟩ ∧ q < 18446744073709551616 ∧ T.length ≤ 30 ∧ Hid (Lib.decDigits u = Lib.decDigits q ++ T) ∧ Below w.heap.size w wr) (fun n _ _ => (intOf n).toNat)
  case atStart => exact ⟨u, [], rfl, rfl, hu, by simp, (List.append_nil _).symm, Below.refl _ _⟩
  case round =>
    obtain ⟨q, T, rfl, rfl, hq, hT, HT, hb⟩ := hrel
    by_cases h9 : 9 < q
    · have hcv := one_byte wr (q % 10) (Nat.mod_lt _ (by decide))
      rw [show (((q % 10 : Nat)) : Int) = (q : Int) % 10 from by omega] at hcv
      have HB : Hid (Lib.decDigits u = Lib.decDigits (q / 10) ++ ([UInt8.ofNat (48 + q % 10)] ++ T)) := by
        rw [unhide HT, ← List.append_assoc]
        rw [show Lib.decDigits q = Lib.decDigits (q / 10) ++ [UInt8.ofNat (48 + q % 10)] from by rw [Lib.decDigits, dif_neg (by omega)]]
        exact rfl
      have hT' : T.length + 1 ≤ 30 := by
        have h1 := congrArg List.length (unhide HB)
        simp only [List.length_append, List.length_cons, List.length_nil, Lib.decDigits_length] at h1
        have h2 := Lib.nDigits_le20 u hu
        omega
      generalize UInt8.ofNat (48 + q % 10) = b at *
      go_wp2
      go_roundw
      case rel => exact ⟨q / 10, [b] ++ T, by go_num, by rw [append_one], by omega, by simpa using hT', HB, hb.alloc hb.size _⟩
      case measure => simp [intOf]; omega
    · have hcv := one_byte wr q (by omega)
      have HB : Hid (Lib.decDigits u = [UInt8.ofNat (48 + q)] ++ T) := by
        rw [unhide HT, Lib.decDigits_one (by omega)]; exact rfl
      generalize UInt8.ofNat (48 + q) = b at *
      go_wp2
      go_ret
      exact ⟨by rw [unhide HB, append_one]; rfl, hb.alloc hb.size _⟩

end Go.Proofs.YtoinadnpdbaamaaGreatDoor

namespace Go.Proofs.YtoinadnpdbaamaaGreatDoor
open Go.RowKit

theorem pow_grow (e : Nat) (he : 20 ≤ e) : 18446744073709551616 ≤ 10 ^ e := Nat.le_trans (by decide : 18446744073709551616 ≤ 10 ^ 20) (Nat.pow_le_pow_right (by decide) he)
theorem u64_600 (N : Nat) (h : N < 18446744073709551616) : N < 10 ^ 600 := Nat.lt_of_lt_of_le h (pow_grow 600 (by decide))
theorem wrap_back (N : Nat) (h1 : 1 ≤ N) (h2 : N ≤ 9223372036854775808) : IntKind.u64.wrap (-IntKind.u64.wrap (-(N : Int))) = (N : Int) := by
  have e : ∀ x : Int, IntKind.u64.wrap x = x % 18446744073709551616 := fun x => rfl
  rw [e, e]; omega

set_option maxRecDepth 100000 in
set_option maxHeartbeats 2000000 in
theorem ratOf_neg (N : Nat) (w : World) (h1 : 1 ≤ N) (h2 : N ≤ 9223372036854775808) (htab : Tab w) :
    Calls Tryz.prog 19 #[.int .i64 (-(N : Int))] w fun r w' => r = .returned (.agg #[.string (sT true N), .string ⟨#[49]⟩]) ∧ Below w.heap.size w w' := by
  obtain ⟨V, hV⟩ : ∃ V, V = w.alloc (.cells #[.string ⟨#[]⟩, .string ⟨#[]⟩] 23) := ⟨_, rfl⟩
  have hbV : Below w.heap.size w V := by rw [hV]; exact (Below.refl _ _).alloc (Nat.le_refl _) _
  have HR : Hid (T2 V w.heap.size (.string ⟨#[]⟩) (.string ⟨#[]⟩) ∧ Below w.heap.size w V) := ⟨by rw [hV]; exact ⟨by simp [go_sem], by simp [go_sem], by simp [go_sem], by simp [go_sem]⟩, hbV⟩
  have HV := hide hV
  have hN : N < 10 ^ 600 := u64_600 N (by omega)
  have HOF : Hid (Calls Tryz.prog 79 #[.int .u64 (N : Int)] V fun e w' => e = .returned (.string (tb N)) ∧ Below V.heap.size V w') := by
    have := natOf_any N (by omega) V (htab.later hbV)
    rwa [show (⟨(Lib.decDigits N).toArray⟩ : ByteArray) = tb N from bytes_ext (by rw [tb_list N hN])] at this
  have HSG : Hid (∀ W, Calls Tryz.prog 78 #[.bool true, .string (tb N)] W fun e w' => e = .returned (.string (sT true N)) ∧ w' = W) := fun W => signed_any true (tb N) W (by have := (tb_digs N hN).2; omega)
  have k0 : -(N : Int) < 0 := by omega
  have k1 : 0 < N := by omega
  have HW : Hid (IntKind.u64.wrap (-IntKind.u64.wrap (-(N : Int))) = (N : Int)) := wrap_back N h1 h2
  clear hN htab hbV
  generalize sT true N = sn at *
  generalize tb N = tn at *
  go_enter Tryz.func19, Tryz.ntmps19
  go_upto_region 4 with fail
  rw [unhide HW]
  rw [← unhide HV]
  clear hV HV
  go_wp2_with (first
    | (go_at_call 79; go_must (refine (unhide HOF).mono ?_; rintro e W9 ⟨rfl, hb1⟩; have HR1 : Hid (T2 W9 w.heap.size (.string ⟨#[]⟩) (.string ⟨#[]⟩) ∧ Below w.heap.size w W9) := ⟨(unhide HR).1.later hb1, (unhide HR).2.trans (hb1.mono (unhide HR).2.size)⟩; clear hb1))
    | (go_at_call 78; go_must (refine (unhide HSG _).mono ?_; rintro e wB ⟨rfl, hwB⟩; obtain rfl : W9 = wB := hwB.symm; have r0 := (unhide HR1).1.c0; have r1 := (unhide HR1).1.c1; have rf0 := (unhide HR1).1.f0; have rf1 := (unhide HR1).1.f1)))
  have hS := (unhide HR1).1.store (.string sn) (.string ⟨#[49]⟩)
  have hb : Below w.heap.size w (store2 W9 w.heap.size (.string sn) (.string ⟨#[49]⟩)) := below_store2 (unhide HR1).2 (Nat.le_refl _) _ _
  have u0 := hS.c0; have u1 := hS.c1
  exact bodyPost_ret (v := .agg #[.string sn, .string ⟨#[49]⟩]) (w := store2 W9 w.heap.size (.string sn) (.string ⟨#[49]⟩)) (by simp [results, Tryz.results19, go_sem, u0, u1]) rfl ⟨rfl, hb⟩

set_option maxRecDepth 100000 in
set_option maxHeartbeats 2000000 in
theorem ratOf_pos (N : Nat) (w : World) (h2 : N < 9223372036854775808) (htab : Tab w) :
    Calls Tryz.prog 19 #[.int .i64 (N : Int)] w fun r w' => r = .returned (.agg #[.string (sT false N), .string ⟨#[49]⟩]) ∧ Below w.heap.size w w' := by
  obtain ⟨V, hV⟩ : ∃ V, V = w.alloc (.cells #[.string ⟨#[]⟩, .string ⟨#[]⟩] 23) := ⟨_, rfl⟩
  have hbV : Below w.heap.size w V := by rw [hV]; exact (Below.refl _ _).alloc (Nat.le_refl _) _
  have HR : Hid (T2 V w.heap.size (.string ⟨#[]⟩) (.string ⟨#[]⟩) ∧ Below w.heap.size w V) := ⟨by rw [hV]; exact ⟨by simp [go_sem], by simp [go_sem], by simp [go_sem], by simp [go_sem]⟩, hbV⟩
  have HV := hide hV
  have hN : N < 10 ^ 600 := u64_600 N (by omega)
  have HOF : Hid (Calls Tryz.prog 79 #[.int .u64 (N : Int)] V fun e w' => e = .returned (.string (tb N)) ∧ Below V.heap.size V w') := by
    have := natOf_any N (by omega) V (htab.later hbV)
    rwa [show (⟨(Lib.decDigits N).toArray⟩ : ByteArray) = tb N from bytes_ext (by rw [tb_list N hN])] at this
  have HSG : Hid (∀ W, Calls Tryz.prog 78 #[.bool false, .string (tb N)] W fun e w' => e = .returned (.string (sT false N)) ∧ w' = W) := fun W => signed_any false (tb N) W (by have := (tb_digs N hN).2; omega)
  have k0 : ¬ (N : Int) < 0 := by omega
  skip
  skip
  clear hN htab hbV
  generalize sT false N = sn at *
  generalize tb N = tn at *
  go_enter Tryz.func19, Tryz.ntmps19
  go_upto_region 4 with fail
  skip
  rw [← unhide HV]
  clear hV HV
  go_wp2_with (first
    | (go_at_call 79; go_must (refine (unhide HOF).mono ?_; rintro e W9 ⟨rfl, hb1⟩; have HR1 : Hid (T2 W9 w.heap.size (.string ⟨#[]⟩) (.string ⟨#[]⟩) ∧ Below w.heap.size w W9) := ⟨(unhide HR).1.later hb1, (unhide HR).2.trans (hb1.mono (unhide HR).2.size)⟩; clear hb1))
    | (go_at_call 78; go_must (refine (unhide HSG _).mono ?_; rintro e wB ⟨rfl, hwB⟩; obtain rfl : W9 = wB := hwB.symm; have r0 := (unhide HR1).1.c0; have r1 := (unhide HR1).1.c1; have rf0 := (unhide HR1).1.f0; have rf1 := (unhide HR1).1.f1)))
  have hS := (unhide HR1).1.store (.string sn) (.string ⟨#[49]⟩)
  have hb : Below w.heap.size w (store2 W9 w.heap.size (.string sn) (.string ⟨#[49]⟩)) := below_store2 (unhide HR1).2 (Nat.le_refl _) _ _
  have u0 := hS.c0; have u1 := hS.c1
  exact bodyPost_ret (v := .agg #[.string sn, .string ⟨#[49]⟩]) (w := store2 W9 w.heap.size (.string sn) (.string ⟨#[49]⟩)) (by simp [results, Tryz.results19, go_sem, u0, u1]) rfl ⟨rfl, hb⟩

set_option maxRecDepth 100000 in
set_option maxHeartbeats 2000000 in
theorem refWhole_neg (N : Nat) (w : World) (h1 : 1 ≤ N) (h2 : N ≤ 9223372036854775808) :
    Calls Tryz.prog 67 #[.int .i64 (-(N : Int))] w fun r w' => r = .returned (.agg #[.bool true, .string (tb N), .string ⟨#[49]⟩]) ∧ Below w.heap.size w w' := by
  obtain ⟨V, hV⟩ : ∃ V, V = w.alloc (.cells #[.bool false, .string ⟨#[]⟩, .string ⟨#[]⟩] 61) := ⟨_, rfl⟩
  have hbV : Below w.heap.size w V := by rw [hV]; exact (Below.refl _ _).alloc (Nat.le_refl _) _
  have HR : Hid (FBox V w.heap.size (.bool false) (.string ⟨#[]⟩) (.string ⟨#[]⟩) ∧ Below w.heap.size w V) := ⟨by rw [hV]; exact ⟨by simp [go_sem], by simp [go_sem], by simp [go_sem], by simp [go_sem], by simp [go_sem], by simp [go_sem]⟩, hbV⟩
  have HV := hide hV
  have hN : N < 10 ^ 600 := u64_600 N (by omega)
  have HOF : Hid (∀ u : Int, u = (N : Int) → Calls Tryz.prog 125 #[.int .u64 u] V fun e w' => e = .returned (.string (tb N)) ∧ Below V.heap.size V w') := fun u hu => by
    subst hu
    have := refOf_any N (by omega) V
    rwa [show (⟨(Lib.decDigits N).toArray⟩ : ByteArray) = tb N from bytes_ext (by rw [tb_list N hN])] at this
  have k0 : -(N : Int) < 0 := by omega
  have k1 : 0 < N := by omega
  clear hN hbV
  generalize tb N = tn at *
  go_enter Tryz.func67, Tryz.ntmps67
  go_upto_region 2 with fail
  rw [← unhide HV]
  clear hV HV
  go_wp2_with (go_at_call 125; go_must (refine (unhide HOF _ (by omega)).mono ?_; rintro e W9 ⟨rfl, hb1⟩; have HR1 : Hid (FBox W9 w.heap.size (.bool false) (.string ⟨#[]⟩) (.string ⟨#[]⟩) ∧ Below w.heap.size w W9) := ⟨(unhide HR).1.later hb1, (unhide HR).2.trans (hb1.mono (unhide HR).2.size)⟩; clear hb1; have r0 := (unhide HR1).1.c0; have r1 := (unhide HR1).1.c1; have r2 := (unhide HR1).1.c2; have rf0 := (unhide HR1).1.f0; have rf1 := (unhide HR1).1.f1; have rf2 := (unhide HR1).1.f2))
  have hS := (unhide HR1).1.store (.bool true) (.string tn) (.string ⟨#[49]⟩)
  have hb : Below w.heap.size w (store3 W9 w.heap.size (.bool true) (.string tn) (.string ⟨#[49]⟩)) := below_store3 (unhide HR1).2 (Nat.le_refl _) _ _ _
  have u0 := hS.c0; have u1 := hS.c1; have u2 := hS.c2
  exact bodyPost_ret (v := .agg #[.bool true, .string tn, .string ⟨#[49]⟩]) (w := store3 W9 w.heap.size (.bool true) (.string tn) (.string ⟨#[49]⟩)) (by simp [results, Tryz.results67, go_sem, u0, u1, u2]) rfl ⟨rfl, hb⟩

set_option maxRecDepth 100000 in
set_option maxHeartbeats 2000000 in
theorem refWhole_pos (N : Nat) (w : World) (h2 : N < 9223372036854775808) :
    Calls Tryz.prog 67 #[.int .i64 (N : Int)] w fun r w' => r = .returned (.agg #[.bool false, .string (tb N), .string ⟨#[49]⟩]) ∧ Below w.heap.size w w' := by
  obtain ⟨V, hV⟩ : ∃ V, V = w.alloc (.cells #[.bool false, .string ⟨#[]⟩, .string ⟨#[]⟩] 61) := ⟨_, rfl⟩
  have hbV : Below w.heap.size w V := by rw [hV]; exact (Below.refl _ _).alloc (Nat.le_refl _) _
  have HR : Hid (FBox V w.heap.size (.bool false) (.string ⟨#[]⟩) (.string ⟨#[]⟩) ∧ Below w.heap.size w V) := ⟨by rw [hV]; exact ⟨by simp [go_sem], by simp [go_sem], by simp [go_sem], by simp [go_sem], by simp [go_sem], by simp [go_sem]⟩, hbV⟩
  have HV := hide hV
  have hN : N < 10 ^ 600 := u64_600 N (by omega)
  have HOF : Hid (∀ u : Int, u = (N : Int) → Calls Tryz.prog 125 #[.int .u64 u] V fun e w' => e = .returned (.string (tb N)) ∧ Below V.heap.size V w') := fun u hu => by
    subst hu
    have := refOf_any N (by omega) V
    rwa [show (⟨(Lib.decDigits N).toArray⟩ : ByteArray) = tb N from bytes_ext (by rw [tb_list N hN])] at this
  have k0 : ¬ (N : Int) < 0 := by omega
  skip
  clear hN hbV
  generalize tb N = tn at *
  go_enter Tryz.func67, Tryz.ntmps67
  go_upto_region 3 with fail
  rw [← unhide HV]
  clear hV HV
  go_wp2_with (go_at_call 125; go_must (refine (unhide HOF _ (by omega)).mono ?_; rintro e W9 ⟨rfl, hb1⟩; have HR1 : Hid (FBox W9 w.heap.size (.bool false) (.string ⟨#[]⟩) (.string ⟨#[]⟩) ∧ Below w.heap.size w W9) := ⟨(unhide HR).1.later hb1, (unhide HR).2.trans (hb1.mono (unhide HR).2.size)⟩; clear hb1; have r0 := (unhide HR1).1.c0; have r1 := (unhide HR1).1.c1; have r2 := (unhide HR1).1.c2; have rf0 := (unhide HR1).1.f0; have rf1 := (unhide HR1).1.f1; have rf2 := (unhide HR1).1.f2))
  have hS := (unhide HR1).1.store (.bool false) (.string tn) (.string ⟨#[49]⟩)
  have hb : Below w.heap.size w (store3 W9 w.heap.size (.bool false) (.string tn) (.string ⟨#[49]⟩)) := below_store3 (unhide HR1).2 (Nat.le_refl _) _ _ _
  have u0 := hS.c0; have u1 := hS.c1; have u2 := hS.c2
  exact bodyPost_ret (v := .agg #[.bool false, .string tn, .string ⟨#[49]⟩]) (w := store3 W9 w.heap.size (.bool false) (.string tn) (.string ⟨#[49]⟩)) (by simp [results, Tryz.results67, go_sem, u0, u1, u2]) rfl ⟨rfl, hb⟩

set_option maxRecDepth 100000 in
set_option maxHeartbeats 2000000 in
theorem refOf_of (n : Int) (b : Bool) (t : ByteArray) (w : World) (ht : t.size ≤ 600) (hw : ∀ W, Calls Tryz.prog 67 #[.int .i64 n] W fun r w' => r = .returned (.agg #[.bool b, .string t, .string ⟨#[49]⟩]) ∧ Below W.heap.size W w') :
    Calls Tryz.prog 20 #[.int .i64 n] w fun r w' => r = .returned (.agg #[.string (if b then ⟨#[45]⟩ ++ t else t), .string ⟨#[49]⟩]) ∧ Below w.heap.size w w' := by
  obtain ⟨V, hV⟩ : ∃ V, V = w.alloc (.cells #[.string ⟨#[]⟩, .string ⟨#[]⟩] 23) := ⟨_, rfl⟩
  have hbV : Below w.heap.size w V := by rw [hV]; exact (Below.refl _ _).alloc (Nat.le_refl _) _
  have HR : Hid (T2 V w.heap.size (.string ⟨#[]⟩) (.string ⟨#[]⟩) ∧ Below w.heap.size w V) := ⟨by rw [hV]; exact ⟨by simp [go_sem], by simp [go_sem], by simp [go_sem], by simp [go_sem]⟩, hbV⟩
  have HV := hide hV
  have HW := hide hw
  have HTO := hide (fun W => refTold b t ⟨#[49]⟩ W ht (by decide))
  clear hw hbV ht
  generalize (if b then ⟨#[45]⟩ ++ t else t) = sn at *
  unfold Ans at HTO
  go_enter Tryz.func20, Tryz.ntmps20
  go_upto_region 1 with fail
  rw [← unhide HV]
  clear hV HV
  go_upto_region 2 with (first
    | (go_at_call 67; go_must (refine (unhide HW _).mono ?_; rintro e W9 ⟨rfl, hb1⟩; have HR1 : Hid (T2 W9 w.heap.size (.string ⟨#[]⟩) (.string ⟨#[]⟩) ∧ Below w.heap.size w W9) := ⟨(unhide HR).1.later hb1, (unhide HR).2.trans (hb1.mono (unhide HR).2.size)⟩; clear hb1))
    | (go_at_call 74; go_must (refine (unhide HTO _).mono ?_; rintro e w2 ⟨rfl, hb2⟩; have HR2 : Hid (T2 w2 w.heap.size (.string ⟨#[]⟩) (.string ⟨#[]⟩) ∧ Below w.heap.size w w2) := ⟨(unhide HR1).1.later hb2, (unhide HR1).2.trans (hb2.mono (unhide HR1).2.size)⟩; clear hb2)))
  obtain ⟨V3, hV3⟩ : ∃ V3, V3 = w2.alloc (.cells #[.string sn, .string ⟨#[49]⟩] 23) := ⟨_, rfl⟩
  have hb3 : Below w2.heap.size w2 V3 := by rw [hV3]; exact (Below.refl _ _).alloc (Nat.le_refl _) _
  have HR3 : Hid (T2 V3 w.heap.size (.string ⟨#[]⟩) (.string ⟨#[]⟩) ∧ Below w.heap.size w V3) := ⟨(unhide HR2).1.later hb3, (unhide HR2).2.trans (hb3.mono (unhide HR2).2.size)⟩
  have c0 : V3.cell? ⟨w2.heap.size, 0, none⟩ = some (.string sn) := by rw [hV3]; simp [go_sem]
  have c1 : V3.cell? ⟨w2.heap.size, 1, none⟩ = some (.string ⟨#[49]⟩) := by rw [hV3]; simp [go_sem]
  rw [← hV3]
  clear hV3 hb3
  have r0 := (unhide HR3).1.c0; have r1 := (unhide HR3).1.c1; have rf0 := (unhide HR3).1.f0; have rf1 := (unhide HR3).1.f1
  go_wp2_with fail
  have hS := (unhide HR3).1.store (.string sn) (.string ⟨#[49]⟩)
  have hb : Below w.heap.size w (store2 V3 w.heap.size (.string sn) (.string ⟨#[49]⟩)) := below_store2 (unhide HR3).2 (Nat.le_refl _) _ _
  have u0 := hS.c0; have u1 := hS.c1
  exact bodyPost_ret (v := .agg #[.string sn, .string ⟨#[49]⟩]) (w := store2 V3 w.heap.size (.string sn) (.string ⟨#[49]⟩)) (by simp [results, Tryz.results20, go_sem, u0, u1]) rfl ⟨rfl, hb⟩

theorem ofs (n : Int) (h1 : -9223372036854775808 ≤ n) (h2 : n ≤ 9223372036854775807) : ∃ s : ByteArray,
    (∀ w, Tab w → Calls Tryz.prog 19 #[.int .i64 n] w fun r w' => r = .returned (.agg #[.string s, .string ⟨#[49]⟩]) ∧ Below w.heap.size w w') ∧
    (∀ w, Calls Tryz.prog 20 #[.int .i64 n] w fun r w' => r = .returned (.agg #[.string s, .string ⟨#[49]⟩]) ∧ Below w.heap.size w w') := by
  by_cases hn : n < 0
  · obtain ⟨N, rfl⟩ : ∃ N : Nat, n = -(N : Int) := ⟨(-n).toNat, by omega⟩
    have h600 : N < 10 ^ 600 := u64_600 N (by omega)
    exact ⟨sT true N, fun w ht => ratOf_neg N w (by omega) (by omega) ht, fun w => refOf_of _ true (tb N) w (tb_digs N h600).2 (fun W => refWhole_neg N W (by omega) (by omega))⟩
  · obtain ⟨N, rfl⟩ : ∃ N : Nat, n = (N : Int) := ⟨n.toNat, by omega⟩
    have h600 : N < 10 ^ 600 := u64_600 N (by omega)
    exact ⟨sT false N, fun w ht => ratOf_pos N w (by omega) ht, fun w => refOf_of _ false (tb N) w (tb_digs N h600).2 (fun W => refWhole_pos N W (by omega))⟩
end Go.Proofs.YtoinadnpdbaamaaGreatDoor

namespace Go.Proofs.YtoinadnpdbaamaaGreatDoor
open Go.RowKit

theorem neg_form (num : ByteArray) : (isNeg num = true ∧ 0 < num.size ∧ num.toList.isEmpty = false ∧ (∀ h : 0 < num.size, (num[0].toNat : Int) = 45) ∧ num.extract 1 num.size = digT num) ∨ (isNeg num = false ∧ digT num = num ∧ (num.toList.isEmpty = true ∨ (0 < num.size ∧ num.toList.isEmpty = false ∧ ∀ h : 0 < num.size, ((num[0].toNat : Int) == 45) = false))) := by
  rcases Nat.eq_zero_or_pos num.size with hz | hp
  · right
    have hl : num.data.toList = [] := by rw [← List.length_eq_zero_iff, list_len]; exact hz
    have hn : isNeg num = false := by unfold isNeg; rw [hl]; rfl
    exact ⟨hn, by unfold digT; rw [if_neg (by rw [hn]; decide)], Or.inl (empty_of num hz)⟩
  · have hh := list_head num hp
    by_cases hn : isNeg num = true
    · left
      have h45 : num[0] = 45 := by unfold isNeg at hn; rw [hh] at hn; simpa using hn
      refine ⟨hn, hp, not_empty_of num hp, fun _ => (byte_45 _).2 h45, ?_⟩
      apply bytes_ext
      rw [ext1, digT_list, if_pos hn]
    · right
      have hn' : isNeg num = false := by simpa using hn
      refine ⟨hn', by unfold digT; rw [if_neg hn], Or.inr ⟨hp, not_empty_of num hp, fun _ => ?_⟩⟩
      rw [beq_eq_false_iff_ne]
      intro e
      apply hn
      unfold isNeg
      rw [hh, (byte_45 _).1 e]; rfl
/-- Both News answer the same. -/
theorem news (num den : ByteArray) (s1 : num.size ≤ maxLen) (s2 : den.size ≤ maxLen) : ∃ (rn rd : ByteArray) (er : Int),
    (∀ w, Tab w → Ans 15 #[.string num, .string den] w rn rd er) ∧ (∀ w, Ans 16 #[.string num, .string den] w rn rd er) := by
  have c1 := fun W => cutSign_any num W
  have p1 := fun W => right_any (digT num) W (Nat.le_trans (digT_size num) s1)
  have p2 := fun W => right_any den W s2
  have q1 := fun W => refRight_any (digT num) W (Nat.le_trans (digT_size num) s1)
  have q2 := fun W => refRight_any den W s2
  have hf := neg_form num
  by_cases h12 : Cub.rightB (digT num).data.toList = true ∧ Cub.rightB den.data.toList = true
  · obtain ⟨k1, k2⟩ := h12
    rw [k1] at p1 q1
    rw [k2] at p2 q2
    cases h3 : (den.toList == [48]) with
    | true =>
      refine ⟨⟨#[]⟩, ⟨#[]⟩, 8, fun w _ => ?_, fun w => ?_⟩
      · exact new_err num den (digT num) (isNeg num) true true true 8 w c1 p1 p2 h3 (Or.inr ⟨rfl, rfl, rfl, rfl⟩)
      · exact refNew_walk num den (digT num) ⟨#[]⟩ ⟨#[]⟩ (isNeg num) true true true 8 w s1 hf q1 q2 h3 (fun _ _ h => by cases h) (Or.inr (Or.inl ⟨rfl, rfl, rfl, rfl, rfl, rfl⟩))
    | false =>
      obtain ⟨m, hm, e1⟩ := tb_of k1
      obtain ⟨n, hn, e2⟩ := tb_of k2
      have hn0 : n ≠ 0 := by rw [e2, tb_eq48 n hn] at h3; simpa using h3
      obtain ⟨_, r1, r2, r3⟩ := ratio_q (b := isNeg num) (show 0 < n by omega) hm hn
      refine ⟨_, _, _, fun w ht => new_ok num den (isNeg num) m n w (sT_of num m e1) e2 hm hn hn0 ht, fun w => ?_⟩
      rw [r3]
      refine refNew_walk num den (digT num) _ _ (isNeg num) true true false 0 w s1 hf q1 q2 h3 (fun _ _ _ => ⟨_, fun W => by rw [e1, e2]; exact refLowest (isNeg num) m n W hm hn hn0, fun W => ?_⟩) (Or.inr (Or.inr ⟨rfl, rfl, rfl, rfl⟩))
      have l1 : m / Nat.gcd m n < 10 ^ 600 := Nat.lt_of_le_of_lt (Nat.div_le_self _ _) hm
      have l2 : n / Nat.gcd m n < 10 ^ 600 := Nat.lt_of_le_of_lt (Nat.div_le_self _ _) hn
      have := refTold (isNeg num && decide (m / Nat.gcd m n ≠ 0)) (tb (m / Nat.gcd m n)) (tb (n / Nat.gcd m n)) W (tb_digs _ l1).2 (tb_digs _ l2).2
      rw [r1, r2]
      exact this
  · have hh : (!(Cub.rightB (digT num).data.toList) || !(Cub.rightB den.data.toList)) = true := by
      cases h1 : Cub.rightB (digT num).data.toList <;> cases h2 : Cub.rightB den.data.toList <;> simp_all
    refine ⟨⟨#[]⟩, ⟨#[]⟩, 3, fun w _ => ?_, fun w => ?_⟩
    · exact new_err num den (digT num) (isNeg num) _ _ _ 3 w c1 p1 p2 rfl (Or.inl ⟨hh, rfl⟩)
    · exact refNew_walk num den (digT num) ⟨#[]⟩ ⟨#[]⟩ (isNeg num) _ _ _ 3 w s1 hf q1 q2 rfl (fun a b _ => absurd ⟨a, b⟩ h12) (Or.inl ⟨hh, rfl, rfl, rfl⟩)

set_option maxRecDepth 100000 in
set_option maxHeartbeats 4000000 in
theorem law_makes (n1 d1 num den : ByteArray) (n : Int) (w : World) (htab : Tab w) (s1 : n1.size ≤ maxLen) (s2 : d1.size ≤ maxLen) (s3 : num.size ≤ maxLen) (s4 : den.size ≤ maxLen) (h1 : -9223372036854775808 ≤ n) (h2 : n ≤ 9223372036854775807) :
    Calls Tryz.prog 3 #[.agg #[.string n1, .string d1], .string num, .string den, .int .i64 n] w fun r w' => r = .returned (.bool true) ∧ Below w.heap.size w w' := by
  obtain ⟨ok, o1, o2⟩ : ∃ ok : Bool, Reads n1 d1 ok ∧ RB n1 d1 ok := by
    by_cases h : RightT n1 d1
    · exact ⟨true, reads_yes h, rb_yes s1 s2 h⟩
    · exact ⟨false, reads_no s1 s2 h, rb_no s1 s2 h⟩
  obtain ⟨rn, rd, er, a1, a2⟩ := news num den s3 s4
  obtain ⟨os, b1, b2⟩ := ofs n h1 h2
  obtain ⟨V, hV⟩ : ∃ V, V = w.alloc (.cells #[.string n1, .string d1] 23) := ⟨_, rfl⟩
  have hbV : Below w.heap.size w V := by rw [hV]; exact (Below.refl _ _).alloc (Nat.le_refl _) _
  have HS : Hid (T2 V w.heap.size (.string n1) (.string d1) ∧ Below w.heap.size w V) := ⟨by rw [hV]; exact ⟨by simp [go_sem], by simp [go_sem], by simp [go_sem], by simp [go_sem]⟩, hbV⟩
  have HV := hide hV
  have HTW := hide htab
  have HA1 := hide a1; have HA2 := hide a2
  have H17 := hide (fun W => ratRight_any n1 d1 ok W o1)
  have H18 := hide o2
  have H19 := hide b1; have H20 := hide b2
  have HAW := hide (fun W (hb : Below w.heap.size w W) => awake_any W (htab.later hb))
  unfold Ans at HA1 HA2
  unfold RB at H18
  clear o1 o2 a1 a2 b1 b2 h1 h2 s1 s2 s3 s4 htab hbV
  go_enter Tryz.func3, Tryz.ntmps3
  go_upto_region 1 with fail
  rw [← unhide HV]
  clear hV HV
  go_upto_region 2 with (go_at_call 15; go_must (refine (unhide HA1 _ ((unhide HTW).later (unhide HS).2)).mono ?_; rintro e w1 ⟨rfl, hb1⟩; have HS1 : Hid (T2 w1 w.heap.size (.string n1) (.string d1) ∧ Below w.heap.size w w1) := ⟨(unhide HS).1.later hb1, (unhide HS).2.trans (hb1.mono (unhide HS).2.size)⟩; clear hb1))
  obtain ⟨V2, hV2⟩ : ∃ V2, V2 = w1.alloc (.cells #[.string rn, .string rd] 23) := ⟨_, rfl⟩
  have hb2 : Below w1.heap.size w1 V2 := by rw [hV2]; exact (Below.refl _ _).alloc (Nat.le_refl _) _
  have HS2 : Hid (T2 V2 w.heap.size (.string n1) (.string d1) ∧ Below w.heap.size w V2) := ⟨(unhide HS1).1.later hb2, (unhide HS1).2.trans (hb2.mono (unhide HS1).2.size)⟩
  have HB9 : Hid (T2 V2 w1.heap.size (.string rn) (.string rd)) := by rw [hV2]; exact ⟨by simp [go_sem], by simp [go_sem], by simp [go_sem], by simp [go_sem]⟩
  rw [← hV2]
  clear hV2 hb2 HS HS1
  generalize w1.heap.size = g9 at *
  go_upto_region 3 with (go_at_call 16; go_must (refine (unhide HA2 _).mono ?_; rintro e w3 ⟨rfl, hb3⟩; have HS3 : Hid (T2 w3 w.heap.size (.string n1) (.string d1) ∧ Below w.heap.size w w3) := ⟨(unhide HS2).1.later hb3, (unhide HS2).2.trans (hb3.mono (unhide HS2).2.size)⟩; have HB3 := hide ((unhide HB9).later hb3); clear hb3))
  obtain ⟨V4, hV4⟩ : ∃ V4, V4 = w3.alloc (.cells #[.string rn, .string rd] 23) := ⟨_, rfl⟩
  have hb4 : Below w3.heap.size w3 V4 := by rw [hV4]; exact (Below.refl _ _).alloc (Nat.le_refl _) _
  have HS4 : Hid (T2 V4 w.heap.size (.string n1) (.string d1) ∧ Below w.heap.size w V4) := ⟨(unhide HS3).1.later hb4, (unhide HS3).2.trans (hb4.mono (unhide HS3).2.size)⟩
  have HB4 := hide ((unhide HB3).later hb4)
  have HC4 : Hid (T2 V4 w3.heap.size (.string rn) (.string rd)) := by rw [hV4]; exact ⟨by simp [go_sem], by simp [go_sem], by simp [go_sem], by simp [go_sem]⟩
  rw [← hV4]
  clear hV4 hb4 HS2 HS3 HB9 HB3
  generalize w3.heap.size = g11 at *
  have q0 : ∀ z : Later V4, z.world.cell? ⟨w.heap.size, 0, none⟩ = some (.string n1) := fun z => ((unhide HS4).1.later z.below).c0
  have q1 : ∀ z : Later V4, z.world.cell? ⟨w.heap.size, 1, none⟩ = some (.string d1) := fun z => ((unhide HS4).1.later z.below).c1
  have q2 : ∀ z : Later V4, z.world.cell? ⟨g9, 0, none⟩ = some (.string rn) := fun z => ((unhide HB4).later z.below).c0
  have q3 : ∀ z : Later V4, z.world.cell? ⟨g9, 1, none⟩ = some (.string rd) := fun z => ((unhide HB4).later z.below).c1
  have q4 : ∀ z : Later V4, z.world.cell? ⟨g11, 0, none⟩ = some (.string rn) := fun z => ((unhide HC4).later z.below).c0
  have q5 : ∀ z : Later V4, z.world.cell? ⟨g11, 1, none⟩ = some (.string rd) := fun z => ((unhide HC4).later z.below).c1
  have HZB : Hid (∀ z : Later V4, Below w.heap.size w z.world) := fun z => (unhide HS4).2.trans (z.below.mono (unhide HS4).2.size)
  refine quiet_later (by kernel_rfl) (by kernel_rfl) ?_
  repeat (go_big_quiet_step (first
    | (go_at_call 17; rename_i xx; refine (unhide H17 xx.world).mono ?_; rintro e w9 ⟨rfl, hb9⟩; have hz := xx.below.trans (hb9.mono xx.below.size); first | exact ⟨rfl, ⟨w9, hz⟩, rfl⟩ | exact ⟨rfl, hz⟩ | exact ⟨rfl, w9, hz, rfl⟩)
    | (go_at_call 18; rename_i xx; refine (unhide H18 xx.world).mono ?_; rintro e w9 ⟨rfl, hb9⟩; have hz := xx.below.trans (hb9.mono xx.below.size); first | exact ⟨rfl, ⟨w9, hz⟩, rfl⟩ | exact ⟨rfl, hz⟩ | exact ⟨rfl, w9, hz, rfl⟩)
    | (go_at_call 19; rename_i xx; refine (unhide H19 xx.world ((unhide HTW).later (unhide HZB xx))).mono ?_; rintro e w9 ⟨rfl, hb9⟩; have hz := xx.below.trans (hb9.mono xx.below.size); first | exact ⟨rfl, ⟨w9, hz⟩, rfl⟩ | exact ⟨rfl, hz⟩ | exact ⟨rfl, w9, hz, rfl⟩)
    | (go_at_call 20; rename_i xx; refine (unhide H20 xx.world).mono ?_; rintro e w9 ⟨rfl, hb9⟩; have hz := xx.below.trans (hb9.mono xx.below.size); first | exact ⟨rfl, ⟨w9, hz⟩, rfl⟩ | exact ⟨rfl, hz⟩ | exact ⟨rfl, w9, hz, rfl⟩)
    | (go_at_call 21; rename_i xx; refine (unhide HAW xx.world (unhide HZB xx)).mono ?_; rintro e w9 ⟨rfl, hb9⟩; have hz := xx.below.trans (hb9.mono xx.below.size); first | exact ⟨rfl, ⟨w9, hz⟩, rfl⟩ | exact ⟨rfl, hz⟩ | exact ⟨rfl, w9, hz, rfl⟩)))
  refine wpQuiet_nil ?_
  intro _ hw'
  obtain ⟨xz, hw''⟩ := hw'
  subst hw''
  have HE := hide (unhide HZB xz)
  clear q0 q1 q2 q3 q4 q5
  go_wp2_with fail
  go_ret
  exact ⟨by simp, unhide HE⟩
theorem int_range {n : Int} (h : (Lit.int .i64 n).wf = true) : -9223372036854775808 ≤ n ∧ n ≤ 9223372036854775807 := by
  have e1 : IntKind.i64.min = -9223372036854775808 := rfl
  have e2 : IntKind.i64.max = 9223372036854775807 := rfl
  simp [Lit.wf, e1, e2] at h
  exact h
end Go.Proofs.YtoinadnpdbaamaaGreatDoor
