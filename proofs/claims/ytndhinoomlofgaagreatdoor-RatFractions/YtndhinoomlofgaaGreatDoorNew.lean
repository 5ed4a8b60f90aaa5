/- rat.Right, rat.New; the document's Lowest, Told, New. -/
import Derived.Test.YtndhinoomlofgaaGreatDoorParse1
import Derived.Test.YtndhinoomlofgaaGreatDoorFieldM
namespace Go.Proofs.YtndhinoomlofgaaGreatDoor
open Go.RowKit

/-- What a quotient of two texts comes to. -/
theorem ratio_q {b : Bool} {m n : Nat} (hn : 0 < n) (hm6 : m < 10 ^ 600) (hn6 : n < 10 ^ 600) :
    Small (Cub.valQ b m n) ∧ numT (Cub.valQ b m n) = sT (b && decide (m / Nat.gcd m n ≠ 0)) (m / Nat.gcd m n) ∧ denT (Cub.valQ b m n) = tb (n / Nat.gcd m n) ∧ errT (Cub.valQ b m n) = 0 := by
  obtain ⟨l1, l2⟩ := Cub.ratio_low (b := b) (n := m) hn
  obtain ⟨e1, e2, e3⟩ := Cub.low_is l1
  rw [l2] at e1 e2 e3
  have hs : Small (Cub.valQ b m n) := ⟨by rw [← e2]; exact Nat.lt_of_le_of_lt (Nat.div_le_self _ _) hm6, by rw [← e3]; exact Nat.lt_of_le_of_lt (Nat.div_le_self _ _) hn6⟩
  refine ⟨hs, ?_, ?_, errT_pos hs⟩
  · unfold numT; rw [if_pos hs, ← e1, ← e2]
  · unfold denT; rw [if_pos hs, ← e3]

set_option maxRecDepth 100000 in
set_option maxHeartbeats 2000000 in
theorem new_ok (num den : ByteArray) (b : Bool) (m n : Nat) (w : World) (hnum : num = sT b m) (hden : den = tb n) (hm : m < 10 ^ 600) (hn : n < 10 ^ 600) (hn0 : n ≠ 0) (htab : Tab w) :
    Ans 17 #[.string num, .string den] w (numT (Cub.valQ b m n)) (denT (Cub.valQ b m n)) (errT (Cub.valQ b m n)) := by
  unfold Ans
  obtain ⟨V, hV⟩ : ∃ V, V = w.alloc (.cells #[.string ⟨#[]⟩, .string ⟨#[]⟩] 23) := ⟨_, rfl⟩
  have hbV : Below w.heap.size w V := by rw [hV]; exact (Below.refl _ _).alloc (Nat.le_refl _) _
  have HR : Hid (T2 V w.heap.size (.string ⟨#[]⟩) (.string ⟨#[]⟩) ∧ Below w.heap.size w V) := ⟨by rw [hV]; exact ⟨by simp [go_sem], by simp [go_sem], by simp [go_sem], by simp [go_sem]⟩, hbV⟩
  have HV := hide hV
  have HTW := hide htab
  have HC68 : Hid (Calls Tryz.prog 70 #[.string num] V fun e w' => e = .returned (.tuple #[.bool b, .string (tb m)]) ∧ w' = V) := by
    have := cutSign_any num V
    rw [hnum, neg_sT b m hm, dig_sT b m hm] at this
    rw [hnum]; exact this
  have HR1 : Hid (Calls Tryz.prog 71 #[.string (tb m)] V fun e w' => e = .returned (.bool true) ∧ w' = V) := by
    have := right_any (tb m) V (tb_size m hm)
    rwa [(tb_right m hm).1] at this
  have HR2 : Hid (Calls Tryz.prog 71 #[.string den] V fun e w' => e = .returned (.bool true) ∧ w' = V) := by
    have := right_any (tb n) V (tb_size n hn)
    rw [(tb_right n hn).1] at this
    rw [hden]; exact this
  have z2 : (den.toList == [48]) = false := by rw [hden, tb_eq48 n hn, beq_eq_false_iff_ne]; exact hn0
  have HB1 : Hid (∀ W, Calls Tryz.prog 73 #[.string (tb m)] W fun e w' => ∃ v, e = .returned v ∧ IsBig w' v m ∧ Below W.heap.size W w') := fun W => by
    have := bigText_any (tb m) W (by have := (tb_digs m hm).2; omega) (tb_digs m hm).1
    rwa [(tb_right m hm).2] at this
  have HB2 : Hid (∀ W, Calls Tryz.prog 73 #[.string den] W fun e w' => ∃ v, e = .returned v ∧ IsBig w' v n ∧ Below W.heap.size W w') := fun W => by
    have := bigText_any (tb n) W (by have := (tb_digs n hn).2; omega) (tb_digs n hn).1
    rw [(tb_right n hn).2] at this
    rw [hden]; exact this
  have p6 := pow600
  have hmk := Nat.lt_of_lt_of_le hm p6
  have hnk := Nat.lt_of_lt_of_le hn p6
  have HRA : Hid (∀ W x y, IsBig W x m → IsBig W y n → Calls Tryz.prog 72 #[.bool b, x, y] W fun e w' => ∃ v', e = .returned v' ∧ QOf w' v' (Cub.valQ b m n) 67 ∧ Below W.heap.size W w') := fun W x y h1 h2 => by
    refine (ratio_any b x y m n 67 W h1 h2 hmk hnk (by omega) (divAns 67 (by decide)) (gcdAns 67 (by decide))).mono ?_
    rintro e w' ⟨v', rfl, hf, hb⟩
    obtain ⟨l1, l2⟩ := Cub.ratio_low (b := b) (n := m) (show 0 < n by omega)
    exact ⟨v', rfl, ⟨_, _, _, hf, l1, l2, Nat.lt_of_le_of_lt (Nat.div_le_self _ _) hmk, Nat.lt_of_le_of_lt (Nat.div_le_self _ _) hnk⟩, hb⟩
  have HTE : Hid (∀ W v, QOf W v (Cub.valQ b m n) 67 → Tab W → Calls Tryz.prog 74 #[v] W fun r w' => r = .returned (.tuple #[.agg #[.string (numT (Cub.valQ b m n)), .string (denT (Cub.valQ b m n))], .int .i64 (errT (Cub.valQ b m n))]) ∧ Below W.heap.size W w') := fun W v h ht => qtell v _ 67 W h (by decide) ht
  clear hnum hden hm hn hn0 htab hbV p6 hmk hnk
  generalize numT (Cub.valQ b m n) = rn at *
  generalize denT (Cub.valQ b m n) = rd at *
  generalize errT (Cub.valQ b m n) = re at *
  generalize tb m = ds at *
  go_enter Tryz.func17, Tryz.ntmps17
  go_upto_region 1 with fail
  rw [← unhide HV]
  clear hV HV
  go_upto_region 6 with (first
    | (go_at_call 70; go_must (refine (unhide HC68).mono ?_; rintro e w1 ⟨rfl, hw1⟩; obtain rfl : V = w1 := hw1.symm))
    | (go_at_call_of 71 (Value.string ds); go_must (refine (unhide HR1).mono ?_; rintro e w1 ⟨rfl, hw1⟩; obtain rfl : V = w1 := hw1.symm))
    | (go_at_call 71; go_must (refine (unhide HR2).mono ?_; rintro e w1 ⟨rfl, hw1⟩; obtain rfl : V = w1 := hw1.symm)))
  clear z2
  go_wp2_with (first
    | (go_at_call_of 73 (Value.string ds); go_must (refine (unhide HB1 _).mono ?_; rintro e w2 ⟨v2, rfl, hv2, hb2⟩; have HX2 := hide hv2; have HR2' : Hid (T2 w2 w.heap.size (.string ⟨#[]⟩) (.string ⟨#[]⟩) ∧ Below w.heap.size w w2) := ⟨(unhide HR).1.later hb2, (unhide HR).2.trans (hb2.mono (unhide HR).2.size)⟩; clear hv2 hb2))
    | (go_at_call 73; go_must (refine (unhide HB2 _).mono ?_; rintro e w3 ⟨v3, rfl, hv3, hb3⟩; have HX3 := hide ((unhide HX2).later hb3); have HY3 := hide hv3; have HR3 : Hid (T2 w3 w.heap.size (.string ⟨#[]⟩) (.string ⟨#[]⟩) ∧ Below w.heap.size w w3) := ⟨(unhide HR2').1.later hb3, (unhide HR2').2.trans (hb3.mono (unhide HR2').2.size)⟩; clear hv3 hb3))
    | (go_at_call 72; go_must (refine (unhide HRA _ _ _ (unhide HX3) (unhide HY3)).mono ?_; rintro e w4 ⟨v4, rfl, hv4, hb4⟩; have HQ4 := hide hv4; have HR4 : Hid (T2 w4 w.heap.size (.string ⟨#[]⟩) (.string ⟨#[]⟩) ∧ Below w.heap.size w w4) := ⟨(unhide HR3).1.later hb4, (unhide HR3).2.trans (hb4.mono (unhide HR3).2.size)⟩; clear hv4 hb4))
    | (go_at_call 74; go_must (refine (unhide HTE _ _ (unhide HQ4) ((unhide HTW).later (unhide HR4).2)).mono ?_; rintro e w5 ⟨rfl, hb5⟩; have HR5 : Hid (T2 w5 w.heap.size (.string ⟨#[]⟩) (.string ⟨#[]⟩) ∧ Below w.heap.size w w5) := ⟨(unhide HR4).1.later hb5, (unhide HR4).2.trans (hb5.mono (unhide HR4).2.size)⟩; clear hb5; have r0 := (unhide HR5).1.c0; have r1 := (unhide HR5).1.c1; have rf0 := (unhide HR5).1.f0; have rf1 := (unhide HR5).1.f1)))
  have hS := (unhide HR5).1.store (.string rn) (.string rd)
  have hb : Below w.heap.size w (store2 w5 (w.heap.size) (.string rn) (.string rd)) := below_store2 (unhide HR5).2 (by omega) _ _
  have u0 := hS.c0; have u1 := hS.c1
  exact bodyPost_ret (v := .tuple #[.agg #[.string rn, .string rd], .int .i64 re]) (w := store2 w5 (w.heap.size) (.string rn) (.string rd)) (by simp [results, Tryz.results17, go_sem, u0, u1]) rfl ⟨rfl, hb⟩

set_option maxRecDepth 100000 in
set_option maxHeartbeats 2000000 in
/-- rat.New where it answers an error: 3, or 8 where the second text is 0. -/
theorem new_err (num den ds : ByteArray) (b r1 r2 e2 : Bool) (er : Int) (w : World) (hc : ∀ W, Calls Tryz.prog 70 #[.string num] W fun e w' => e = .returned (.tuple #[.bool b, .string ds]) ∧ w' = W)
    (h1 : ∀ W, Calls Tryz.prog 71 #[.string ds] W fun e w' => e = .returned (.bool r1) ∧ w' = W) (h2 : ∀ W, Calls Tryz.prog 71 #[.string den] W fun e w' => e = .returned (.bool r2) ∧ w' = W)
    (z2 : (den.toList == [48]) = e2) (h : ((!r1 || !r2) = true ∧ er = 3) ∨ (r1 = true ∧ r2 = true ∧ e2 = true ∧ er = 8)) :
    Ans 17 #[.string num, .string den] w ⟨#[]⟩ ⟨#[]⟩ er := by
  unfold Ans
  obtain ⟨V, hV⟩ : ∃ V, V = w.alloc (.cells #[.string ⟨#[]⟩, .string ⟨#[]⟩] 23) := ⟨_, rfl⟩
  have hbV : Below w.heap.size w V := by rw [hV]; exact (Below.refl _ _).alloc (Nat.le_refl _) _
  have HR : Hid (T2 V w.heap.size (.string ⟨#[]⟩) (.string ⟨#[]⟩) ∧ Below w.heap.size w V) := ⟨by rw [hV]; exact ⟨by simp [go_sem], by simp [go_sem], by simp [go_sem], by simp [go_sem]⟩, hbV⟩
  have HV := hide hV
  have HC68 := hide (hc V); have HR1 := hide (h1 V); have HR2 := hide (h2 V)
  clear hc h1 h2 hbV
  go_enter Tryz.func17, Tryz.ntmps17
  go_upto_region 1 with fail
  rw [← unhide HV]
  clear hV HV
  have r0 := (unhide HR).1.c0; have q1 := (unhide HR).1.c1; have rf0 := (unhide HR).1.f0; have rf1 := (unhide HR).1.f1
  rcases h with ⟨hh, rfl⟩ | ⟨rfl, rfl, rfl, rfl⟩
  · cases r1 with
    | false =>
      clear hh z2
      go_wp2_with (first
        | (go_at_call 70; go_must (refine (unhide HC68).mono ?_; rintro e w1 ⟨rfl, hw1⟩; obtain rfl : V = w1 := hw1.symm))
        | (go_at_call_of 71 (Value.string ds); go_must (refine (unhide HR1).mono ?_; rintro e w1 ⟨rfl, hw1⟩; obtain rfl : V = w1 := hw1.symm))
        | (go_at_call 71; go_must (refine (unhide HR2).mono ?_; rintro e w1 ⟨rfl, hw1⟩; obtain rfl : V = w1 := hw1.symm)))
      have hS := (unhide HR).1.store (.string ⟨#[]⟩) (.string ⟨#[]⟩)
      have hb : Below w.heap.size w (store2 V (w.heap.size) (.string ⟨#[]⟩) (.string ⟨#[]⟩)) := below_store2 (unhide HR).2 (by omega) _ _
      have u0 := hS.c0; have u1 := hS.c1
      exact bodyPost_ret (v := .tuple #[.agg #[.string ⟨#[]⟩, .string ⟨#[]⟩], .int .i64 3]) (w := store2 V (w.heap.size) (.string ⟨#[]⟩) (.string ⟨#[]⟩)) (by simp [results, Tryz.results17, go_sem, u0, u1]) rfl ⟨rfl, hb⟩
    | true =>
      obtain rfl : r2 = false := by simpa using hh
      clear hh z2
      go_wp2_with (first
        | (go_at_call 70; go_must (refine (unhide HC68).mono ?_; rintro e w1 ⟨rfl, hw1⟩; obtain rfl : V = w1 := hw1.symm))
        | (go_at_call_of 71 (Value.string ds); go_must (refine (unhide HR1).mono ?_; rintro e w1 ⟨rfl, hw1⟩; obtain rfl : V = w1 := hw1.symm))
        | (go_at_call 71; go_must (refine (unhide HR2).mono ?_; rintro e w1 ⟨rfl, hw1⟩; obtain rfl : V = w1 := hw1.symm)))
      have hS := (unhide HR).1.store (.string ⟨#[]⟩) (.string ⟨#[]⟩)
      have hb : Below w.heap.size w (store2 V (w.heap.size) (.string ⟨#[]⟩) (.string ⟨#[]⟩)) := below_store2 (unhide HR).2 (by omega) _ _
      have u0 := hS.c0; have u1 := hS.c1
      exact bodyPost_ret (v := .tuple #[.agg #[.string ⟨#[]⟩, .string ⟨#[]⟩], .int .i64 3]) (w := store2 V (w.heap.size) (.string ⟨#[]⟩) (.string ⟨#[]⟩)) (by simp [results, Tryz.results17, go_sem, u0, u1]) rfl ⟨rfl, hb⟩
  · go_wp2_with (first
      | (go_at_call 70; go_must (refine (unhide HC68).mono ?_; rintro e w1 ⟨rfl, hw1⟩; obtain rfl : V = w1 := hw1.symm))
      | (go_at_call_of 71 (Value.string ds); go_must (refine (unhide HR1).mono ?_; rintro e w1 ⟨rfl, hw1⟩; obtain rfl : V = w1 := hw1.symm))
      | (go_at_call 71; go_must (refine (unhide HR2).mono ?_; rintro e w1 ⟨rfl, hw1⟩; obtain rfl : V = w1 := hw1.symm)))
    have hS := (unhide HR).1.store (.string ⟨#[]⟩) (.string ⟨#[]⟩)
    have hb : Below w.heap.size w (store2 V (w.heap.size) (.string ⟨#[]⟩) (.string ⟨#[]⟩)) := below_store2 (unhide HR).2 (by omega) _ _
    have u0 := hS.c0; have u1 := hS.c1
    exact bodyPost_ret (v := .tuple #[.agg #[.string ⟨#[]⟩, .string ⟨#[]⟩], .int .i64 8]) (w := store2 V (w.heap.size) (.string ⟨#[]⟩) (.string ⟨#[]⟩)) (by simp [results, Tryz.results17, go_sem, u0, u1]) rfl ⟨rfl, hb⟩
end Go.Proofs.YtndhinoomlofgaaGreatDoor
