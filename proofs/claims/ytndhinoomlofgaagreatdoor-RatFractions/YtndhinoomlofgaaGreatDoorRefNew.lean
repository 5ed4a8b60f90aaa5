/- The document's Lowest, Told, New. -/
import Derived.Test.YtndhinoomlofgaaGreatDoorNew
namespace Go.Proofs.YtndhinoomlofgaaGreatDoor
open Go.RowKit

set_option maxRecDepth 100000 in
set_option maxHeartbeats 2000000 in
theorem refLowest (b : Bool) (m n : Nat) (w : World) (hm : m < 10 ^ 600) (hn : n < 10 ^ 600) (hn0 : n ≠ 0) :
    Calls Tryz.prog 77 #[.bool b, .string (tb m), .string (tb n)] w fun r w' => r = .returned (.agg #[.bool (b && decide (m / Nat.gcd m n ≠ 0)), .string (tb (m / Nat.gcd m n)), .string (tb (n / Nat.gcd m n))]) ∧ Below w.heap.size w w' := by
  obtain ⟨V, hV⟩ : ∃ V, V = w.alloc (.cells #[.bool false, .string ⟨#[]⟩, .string ⟨#[]⟩] 61) := ⟨_, rfl⟩
  have hbV : Below w.heap.size w V := by rw [hV]; exact (Below.refl _ _).alloc (Nat.le_refl _) _
  have HR : Hid (FBox V w.heap.size (.bool false) (.string ⟨#[]⟩) (.string ⟨#[]⟩) ∧ Below w.heap.size w V) := ⟨by rw [hV]; exact ⟨by simp [go_sem], by simp [go_sem], by simp [go_sem], by simp [go_sem], by simp [go_sem], by simp [go_sem]⟩, hbV⟩
  have HV := hide hV
  by_cases h0 : m = 0
  · subst h0
    have z : ((tb 0).toList == [48]) = true := by rw [tb_eq48 0 hm]; rfl
    have e0 := (lit_tb ⟨#[48]⟩ 0 (by decide) (by decide)).1
    have e1 := (lit_tb ⟨#[49]⟩ 1 (by decide) (by decide)).1
    have HE : Hid ((Value.agg #[.bool (b && decide (0 / Nat.gcd 0 n ≠ 0)), .string (tb (0 / Nat.gcd 0 n)), .string (tb (n / Nat.gcd 0 n))]) = .agg #[.bool false, .string ⟨#[48]⟩, .string ⟨#[49]⟩]) := by
      show _ = _
      rw [Nat.gcd_zero_left, Nat.zero_div, Nat.div_self (by omega), ← e0, ← e1]; simp
    rw [unhide HE]
    clear e0 e1 hbV hm hn hn0 HE
    generalize tb 0 = s0 at *
    generalize tb n = sn at *
    go_enter Tryz.func77, Tryz.ntmps77
    go_upto_region 1 with fail
    rw [← unhide HV]
    clear hV HV
    have r0 := (unhide HR).1.c0; have r1 := (unhide HR).1.c1; have r2 := (unhide HR).1.c2; have rf0 := (unhide HR).1.f0; have rf1 := (unhide HR).1.f1; have rf2 := (unhide HR).1.f2
    go_wp2_with fail
    have hS := (unhide HR).1.store (.bool false) (.string ⟨#[48]⟩) (.string ⟨#[49]⟩)
    have hb : Below w.heap.size w (store3 V w.heap.size (.bool false) (.string ⟨#[48]⟩) (.string ⟨#[49]⟩)) := below_store3 (unhide HR).2 (Nat.le_refl _) _ _ _
    have u0 := hS.c0; have u1 := hS.c1; have u2 := hS.c2
    exact bodyPost_ret (v := .agg #[.bool false, .string ⟨#[48]⟩, .string ⟨#[49]⟩]) (w := store3 V w.heap.size (.bool false) (.string ⟨#[48]⟩) (.string ⟨#[49]⟩)) (by simp [results, Tryz.results77, go_sem, u0, u1, u2]) rfl ⟨rfl, hb⟩
  · have z : ((tb m).toList == [48]) = false := by rw [tb_eq48 m hm, beq_eq_false_iff_ne]; exact h0
    have hg0 : 0 < Nat.gcd m n := Nat.gcd_pos_of_pos_right _ (by omega)
    have hgl : Nat.gcd m n < 10 ^ 600 := Nat.lt_of_le_of_lt (Nat.gcd_le_right _ (by omega)) hn
    have hq0 : m / Nat.gcd m n ≠ 0 := by
      have := Nat.div_pos (Nat.gcd_le_left n (by omega : 0 < m)) hg0
      omega
    have HCM := hide (fun W => refCommon_any m n W hm hn)
    have HD1 := hide (fun W => refDivideN m (Nat.gcd m n) W hm hgl hg0)
    have HD2 := hide (fun W => refDivideN n (Nat.gcd m n) W hn hgl hg0)
    have HE : Hid ((b && decide (m / Nat.gcd m n ≠ 0)) = b) := by show _ = _; simp [hq0]
    rw [unhide HE]
    clear hbV hm hn hn0 HE hg0 hgl hq0 h0
    generalize tb (m / Nat.gcd m n) = q1 at *
    generalize tb (n / Nat.gcd m n) = q2 at *
    generalize tb (m % Nat.gcd m n) = q3 at *
    generalize tb (n % Nat.gcd m n) = q4 at *
    generalize tb (Nat.gcd m n) = sg at *
    generalize tb m = sm at *
    generalize tb n = sn at *
    go_enter Tryz.func77, Tryz.ntmps77
    go_upto_region 1 with fail
    rw [← unhide HV]
    clear hV HV
    go_upto_region 4 with (go_at_call 79; go_must (refine (unhide HCM _).mono ?_; rintro e w1 ⟨rfl, hb1⟩; have HR1 : Hid (FBox w1 w.heap.size (.bool false) (.string ⟨#[]⟩) (.string ⟨#[]⟩) ∧ Below w.heap.size w w1) := ⟨(unhide HR).1.later hb1, (unhide HR).2.trans (hb1.mono (unhide HR).2.size)⟩; clear hb1))
    go_upto_region 5 with (go_at_call 121; go_must (refine (unhide HD1 _).mono ?_; rintro e w2 ⟨rfl, hb2⟩; have HR2 : Hid (FBox w2 w.heap.size (.bool false) (.string ⟨#[]⟩) (.string ⟨#[]⟩) ∧ Below w.heap.size w w2) := ⟨(unhide HR1).1.later hb2, (unhide HR1).2.trans (hb2.mono (unhide HR1).2.size)⟩; clear hb2))
    go_upto_region 6 with (go_at_call 121; go_must (refine (unhide HD2 _).mono ?_; rintro e w3 ⟨rfl, hb3⟩; have HR3 : Hid (FBox w3 w.heap.size (.bool false) (.string ⟨#[]⟩) (.string ⟨#[]⟩) ∧ Below w.heap.size w w3) := ⟨(unhide HR2).1.later hb3, (unhide HR2).2.trans (hb3.mono (unhide HR2).2.size)⟩; clear hb3))
    have r0 := (unhide HR3).1.c0; have r1 := (unhide HR3).1.c1; have r2 := (unhide HR3).1.c2; have rf0 := (unhide HR3).1.f0; have rf1 := (unhide HR3).1.f1; have rf2 := (unhide HR3).1.f2
    go_wp2_with fail
    have hS := (unhide HR3).1.store (.bool b) (.string q1) (.string q2)
    have hb : Below w.heap.size w (store3 w3 w.heap.size (.bool b) (.string q1) (.string q2)) := below_store3 (unhide HR3).2 (Nat.le_refl _) _ _ _
    have u0 := hS.c0; have u1 := hS.c1; have u2 := hS.c2
    exact bodyPost_ret (v := .agg #[.bool b, .string q1, .string q2]) (w := store3 w3 w.heap.size (.bool b) (.string q1) (.string q2)) (by simp [results, Tryz.results77, go_sem, u0, u1, u2]) rfl ⟨rfl, hb⟩

set_option maxRecDepth 100000 in
set_option maxHeartbeats 2000000 in
theorem refTold (b : Bool) (s t : ByteArray) (w : World) (hs : s.size ≤ 600) (ht : t.size ≤ 600) :
    Ans 76 #[.agg #[.bool b, .string s, .string t]] w (if b then ⟨#[45]⟩ ++ s else s) t 0 := by
  unfold Ans
  obtain ⟨V, hV⟩ : ∃ V, V = (w.alloc (.cells #[.bool b, .string s, .string t] 61)).alloc (.cells #[.string ⟨#[]⟩, .string ⟨#[]⟩] 23) := ⟨_, rfl⟩
  have hbV : Below w.heap.size w V := by rw [hV]; exact ((Below.refl _ _).alloc (Nat.le_refl _) _).alloc (by simp) _
  have HR : Hid (T2 V (w.heap.size + 1) (.string ⟨#[]⟩) (.string ⟨#[]⟩) ∧ Below w.heap.size w V) := ⟨by rw [hV]; exact ⟨by simp [go_sem], by simp [go_sem], by simp [go_sem], by simp [go_sem]⟩, hbV⟩
  have HF : Hid (FBox V w.heap.size (.bool b) (.string s) (.string t)) := by rw [hV]; exact ⟨by simp [go_sem], by simp [go_sem], by simp [go_sem], by simp [go_sem], by simp [go_sem], by simp [go_sem]⟩
  have HV := hide hV
  have hl : (⟨#[45]⟩ : ByteArray).size = 1 := rfl
  clear hbV
  have t0 := (unhide HF).c0; have t1 := (unhide HF).c1; have t2 := (unhide HF).c2
  have r0 := (unhide HR).1.c0; have r1 := (unhide HR).1.c1; have rf0 := (unhide HR).1.f0; have rf1 := (unhide HR).1.f1
  cases b with
  | true =>
    have HE : Hid ((if true = true then (⟨#[45]⟩ : ByteArray) ++ s else s) = ⟨#[45]⟩ ++ s) := rfl
    rw [unhide HE]
    clear HE
    go_enter Tryz.func76, Tryz.ntmps76
    go_upto_region 1 with fail
    rw [← unhide HV]
    clear hV HV
    go_wp2_with fail
    have hS := (unhide HR).1.store (.string (⟨#[45]⟩ ++ s)) (.string t)
    have hb : Below w.heap.size w (store2 V (w.heap.size + 1) (.string (⟨#[45]⟩ ++ s)) (.string t)) := below_store2 (unhide HR).2 (by omega) _ _
    have u0 := hS.c0; have u1 := hS.c1
    exact bodyPost_ret (v := .tuple #[.agg #[.string (⟨#[45]⟩ ++ s), .string t], .int .i64 0]) (w := store2 V (w.heap.size + 1) (.string (⟨#[45]⟩ ++ s)) (.string t)) (by simp [results, Tryz.results76, go_sem, u0, u1]) rfl ⟨rfl, hb⟩
  | false =>
    have HE : Hid ((if false = true then (⟨#[45]⟩ : ByteArray) ++ s else s) = s) := rfl
    rw [unhide HE]
    clear HE
    go_enter Tryz.func76, Tryz.ntmps76
    go_upto_region 1 with fail
    rw [← unhide HV]
    clear hV HV
    go_wp2_with fail
    have hS := (unhide HR).1.store (.string s) (.string t)
    have hb : Below w.heap.size w (store2 V (w.heap.size + 1) (.string s) (.string t)) := below_store2 (unhide HR).2 (by omega) _ _
    have u0 := hS.c0; have u1 := hS.c1
    exact bodyPost_ret (v := .tuple #[.agg #[.string s, .string t], .int .i64 0]) (w := store2 V (w.heap.size + 1) (.string s) (.string t)) (by simp [results, Tryz.results76, go_sem, u0, u1]) rfl ⟨rfl, hb⟩

set_option maxRecDepth 100000 in
set_option maxHeartbeats 4000000 in
theorem refNew_walk (num den ds rn rd : ByteArray) (b r1 r2 e2 : Bool) (er : Int) (w : World) (hm : num.size ≤ 9223372036854775807)
    (hneg : (b = true ∧ 0 < num.size ∧ num.toList.isEmpty = false ∧ (∀ h : 0 < num.size, (num[0].toNat : Int) = 45) ∧ num.extract 1 num.size = ds) ∨ (b = false ∧ ds = num ∧ (num.toList.isEmpty = true ∨ (0 < num.size ∧ num.toList.isEmpty = false ∧ ∀ h : 0 < num.size, ((num[0].toNat : Int) == 45) = false))))
    (h1 : ∀ W, Calls Tryz.prog 75 #[.string ds] W fun e w' => e = .returned (.bool r1) ∧ w' = W) (h2 : ∀ W, Calls Tryz.prog 75 #[.string den] W fun e w' => e = .returned (.bool r2) ∧ w' = W)
    (z2 : (den.toList == [48]) = e2)
    (hlo : r1 = true → r2 = true → e2 = false → ∃ v, (∀ W, Calls Tryz.prog 77 #[.bool b, .string ds, .string den] W fun r w' => r = .returned v ∧ Below W.heap.size W w') ∧ ∀ W, Calls Tryz.prog 76 #[v] W fun r w' => r = .returned (.tuple #[.agg #[.string rn, .string rd], .int .i64 0]) ∧ Below W.heap.size W w')
    (h : ((!r1 || !r2) = true ∧ er = 3 ∧ rn = ⟨#[]⟩ ∧ rd = ⟨#[]⟩) ∨ (r1 = true ∧ r2 = true ∧ e2 = true ∧ er = 8 ∧ rn = ⟨#[]⟩ ∧ rd = ⟨#[]⟩) ∨ (r1 = true ∧ r2 = true ∧ e2 = false ∧ er = 0)) :
    Ans 18 #[.string num, .string den] w rn rd er := by
  unfold Ans
  obtain ⟨V, hV⟩ : ∃ V, V = w.alloc (.cells #[.string ⟨#[]⟩, .string ⟨#[]⟩] 23) := ⟨_, rfl⟩
  have hbV : Below w.heap.size w V := by rw [hV]; exact (Below.refl _ _).alloc (Nat.le_refl _) _
  have HR : Hid (T2 V w.heap.size (.string ⟨#[]⟩) (.string ⟨#[]⟩) ∧ Below w.heap.size w V) := ⟨by rw [hV]; exact ⟨by simp [go_sem], by simp [go_sem], by simp [go_sem], by simp [go_sem]⟩, hbV⟩
  have HV := hide hV
  have H1 := hide h1
  have H2 := hide h2
  clear h1 h2 hbV
  rcases hneg with ⟨rfl, hp, he, h45, hds⟩ | ⟨rfl, rfl, hpos⟩
  · have h45' := h45 hp
    have hs' : (0 : Int) < (num.size : Int) := by omega
    have HDS := hide hds
    clear hds h45
    go_enter Tryz.func18, Tryz.ntmps18
    go_upto_region 4 with fail
    rw [unhide HDS, ← unhide HV]
    clear hV HV HDS h45' hs' hp he
    rcases h with ⟨hh, rfl, rfl, rfl⟩ | ⟨rfl, rfl, rfl, rfl, rfl, rfl⟩ | ⟨rfl, rfl, rfl, rfl⟩
    · clear hlo
      have r0 := (unhide HR).1.c0; have q1 := (unhide HR).1.c1; have rf0 := (unhide HR).1.f0; have rf1 := (unhide HR).1.f1
      cases r1 with
      | false =>
        clear hh z2
        go_wp2_with (first
        | (go_at_call_of 75 (Value.string ds); go_must (refine (unhide H1 _).mono ?_; rintro e w1 ⟨rfl, hw1⟩; obtain rfl : V = w1 := hw1.symm))
        | (go_at_call 75; go_must (refine (unhide H2 _).mono ?_; rintro e w1 ⟨rfl, hw1⟩; obtain rfl : V = w1 := hw1.symm)))
        have hS := (unhide HR).1.store (.string ⟨#[]⟩) (.string ⟨#[]⟩)
        have hb : Below w.heap.size w (store2 V (w.heap.size) (.string ⟨#[]⟩) (.string ⟨#[]⟩)) := below_store2 (unhide HR).2 (by omega) _ _
        have u0 := hS.c0; have u1 := hS.c1
        exact bodyPost_ret (v := .tuple #[.agg #[.string ⟨#[]⟩, .string ⟨#[]⟩], .int .i64 3]) (w := store2 V (w.heap.size) (.string ⟨#[]⟩) (.string ⟨#[]⟩)) (by simp [results, Tryz.results18, go_sem, u0, u1]) rfl ⟨rfl, hb⟩
      | true =>
        obtain rfl : r2 = false := by simpa using hh
        clear hh z2
        go_wp2_with (first
        | (go_at_call_of 75 (Value.string ds); go_must (refine (unhide H1 _).mono ?_; rintro e w1 ⟨rfl, hw1⟩; obtain rfl : V = w1 := hw1.symm))
        | (go_at_call 75; go_must (refine (unhide H2 _).mono ?_; rintro e w1 ⟨rfl, hw1⟩; obtain rfl : V = w1 := hw1.symm)))
        have hS := (unhide HR).1.store (.string ⟨#[]⟩) (.string ⟨#[]⟩)
        have hb : Below w.heap.size w (store2 V (w.heap.size) (.string ⟨#[]⟩) (.string ⟨#[]⟩)) := below_store2 (unhide HR).2 (by omega) _ _
        have u0 := hS.c0; have u1 := hS.c1
        exact bodyPost_ret (v := .tuple #[.agg #[.string ⟨#[]⟩, .string ⟨#[]⟩], .int .i64 3]) (w := store2 V (w.heap.size) (.string ⟨#[]⟩) (.string ⟨#[]⟩)) (by simp [results, Tryz.results18, go_sem, u0, u1]) rfl ⟨rfl, hb⟩
    · clear hlo
      have r0 := (unhide HR).1.c0; have q1 := (unhide HR).1.c1; have rf0 := (unhide HR).1.f0; have rf1 := (unhide HR).1.f1
      go_wp2_with (first
        | (go_at_call_of 75 (Value.string ds); go_must (refine (unhide H1 _).mono ?_; rintro e w1 ⟨rfl, hw1⟩; obtain rfl : V = w1 := hw1.symm))
        | (go_at_call 75; go_must (refine (unhide H2 _).mono ?_; rintro e w1 ⟨rfl, hw1⟩; obtain rfl : V = w1 := hw1.symm)))
      have hS := (unhide HR).1.store (.string ⟨#[]⟩) (.string ⟨#[]⟩)
      have hb : Below w.heap.size w (store2 V (w.heap.size) (.string ⟨#[]⟩) (.string ⟨#[]⟩)) := below_store2 (unhide HR).2 (by omega) _ _
      have u0 := hS.c0; have u1 := hS.c1
      exact bodyPost_ret (v := .tuple #[.agg #[.string ⟨#[]⟩, .string ⟨#[]⟩], .int .i64 8]) (w := store2 V (w.heap.size) (.string ⟨#[]⟩) (.string ⟨#[]⟩)) (by simp [results, Tryz.results18, go_sem, u0, u1]) rfl ⟨rfl, hb⟩
    · obtain ⟨v, l5, l4⟩ := hlo rfl rfl rfl
      have HL5 := hide l5; have HL4 := hide l4
      clear hlo l5 l4
      go_wp2_with (first
        | (go_at_call_of 75 (Value.string ds); go_must (refine (unhide H1 _).mono ?_; rintro e w1 ⟨rfl, hw1⟩; obtain rfl : V = w1 := hw1.symm))
        | (go_at_call 75; go_must (refine (unhide H2 _).mono ?_; rintro e w1 ⟨rfl, hw1⟩; obtain rfl : V = w1 := hw1.symm))
        | (go_at_call 77; go_must (refine (unhide HL5 _).mono ?_; rintro e w2 ⟨rfl, hb2⟩; have HR2 : Hid (T2 w2 w.heap.size (.string ⟨#[]⟩) (.string ⟨#[]⟩) ∧ Below w.heap.size w w2) := ⟨(unhide HR).1.later hb2, (unhide HR).2.trans (hb2.mono (unhide HR).2.size)⟩; clear hb2))
        | (go_at_call 76; go_must (refine (unhide HL4 _).mono ?_; rintro e w3 ⟨rfl, hb3⟩; have HR3 : Hid (T2 w3 w.heap.size (.string ⟨#[]⟩) (.string ⟨#[]⟩) ∧ Below w.heap.size w w3) := ⟨(unhide HR2).1.later hb3, (unhide HR2).2.trans (hb3.mono (unhide HR2).2.size)⟩; clear hb3; have r0 := (unhide HR3).1.c0; have r1' := (unhide HR3).1.c1; have rf0 := (unhide HR3).1.f0; have rf1 := (unhide HR3).1.f1)))
      have hS := (unhide HR3).1.store (.string rn) (.string rd)
      have hb : Below w.heap.size w (store2 w3 (w.heap.size) (.string rn) (.string rd)) := below_store2 (unhide HR3).2 (by omega) _ _
      have u0 := hS.c0; have u1 := hS.c1
      exact bodyPost_ret (v := .tuple #[.agg #[.string rn, .string rd], .int .i64 0]) (w := store2 w3 (w.heap.size) (.string rn) (.string rd)) (by simp [results, Tryz.results18, go_sem, u0, u1]) rfl ⟨rfl, hb⟩
  · rcases hpos with he | ⟨hp, he, h45⟩
    · go_enter Tryz.func18, Tryz.ntmps18
      go_upto_region 4 with fail
      rw [← unhide HV]
      clear hV HV he
      rcases h with ⟨hh, rfl, rfl, rfl⟩ | ⟨rfl, rfl, rfl, rfl, rfl, rfl⟩ | ⟨rfl, rfl, rfl, rfl⟩
      · clear hlo
        have r0 := (unhide HR).1.c0; have q1 := (unhide HR).1.c1; have rf0 := (unhide HR).1.f0; have rf1 := (unhide HR).1.f1
        cases r1 with
        | false =>
          clear hh z2
          go_wp2_with (first
        | (go_at_call_of 75 (Value.string ds); go_must (refine (unhide H1 _).mono ?_; rintro e w1 ⟨rfl, hw1⟩; obtain rfl : V = w1 := hw1.symm))
        | (go_at_call 75; go_must (refine (unhide H2 _).mono ?_; rintro e w1 ⟨rfl, hw1⟩; obtain rfl : V = w1 := hw1.symm)))
          have hS := (unhide HR).1.store (.string ⟨#[]⟩) (.string ⟨#[]⟩)
          have hb : Below w.heap.size w (store2 V (w.heap.size) (.string ⟨#[]⟩) (.string ⟨#[]⟩)) := below_store2 (unhide HR).2 (by omega) _ _
          have u0 := hS.c0; have u1 := hS.c1
          exact bodyPost_ret (v := .tuple #[.agg #[.string ⟨#[]⟩, .string ⟨#[]⟩], .int .i64 3]) (w := store2 V (w.heap.size) (.string ⟨#[]⟩) (.string ⟨#[]⟩)) (by simp [results, Tryz.results18, go_sem, u0, u1]) rfl ⟨rfl, hb⟩
        | true =>
          obtain rfl : r2 = false := by simpa using hh
          clear hh z2
          go_wp2_with (first
        | (go_at_call_of 75 (Value.string ds); go_must (refine (unhide H1 _).mono ?_; rintro e w1 ⟨rfl, hw1⟩; obtain rfl : V = w1 := hw1.symm))
        | (go_at_call 75; go_must (refine (unhide H2 _).mono ?_; rintro e w1 ⟨rfl, hw1⟩; obtain rfl : V = w1 := hw1.symm)))
          have hS := (unhide HR).1.store (.string ⟨#[]⟩) (.string ⟨#[]⟩)
          have hb : Below w.heap.size w (store2 V (w.heap.size) (.string ⟨#[]⟩) (.string ⟨#[]⟩)) := below_store2 (unhide HR).2 (by omega) _ _
          have u0 := hS.c0; have u1 := hS.c1
          exact bodyPost_ret (v := .tuple #[.agg #[.string ⟨#[]⟩, .string ⟨#[]⟩], .int .i64 3]) (w := store2 V (w.heap.size) (.string ⟨#[]⟩) (.string ⟨#[]⟩)) (by simp [results, Tryz.results18, go_sem, u0, u1]) rfl ⟨rfl, hb⟩
      · clear hlo
        have r0 := (unhide HR).1.c0; have q1 := (unhide HR).1.c1; have rf0 := (unhide HR).1.f0; have rf1 := (unhide HR).1.f1
        go_wp2_with (first
        | (go_at_call_of 75 (Value.string ds); go_must (refine (unhide H1 _).mono ?_; rintro e w1 ⟨rfl, hw1⟩; obtain rfl : V = w1 := hw1.symm))
        | (go_at_call 75; go_must (refine (unhide H2 _).mono ?_; rintro e w1 ⟨rfl, hw1⟩; obtain rfl : V = w1 := hw1.symm)))
        have hS := (unhide HR).1.store (.string ⟨#[]⟩) (.string ⟨#[]⟩)
        have hb : Below w.heap.size w (store2 V (w.heap.size) (.string ⟨#[]⟩) (.string ⟨#[]⟩)) := below_store2 (unhide HR).2 (by omega) _ _
        have u0 := hS.c0; have u1 := hS.c1
        exact bodyPost_ret (v := .tuple #[.agg #[.string ⟨#[]⟩, .string ⟨#[]⟩], .int .i64 8]) (w := store2 V (w.heap.size) (.string ⟨#[]⟩) (.string ⟨#[]⟩)) (by simp [results, Tryz.results18, go_sem, u0, u1]) rfl ⟨rfl, hb⟩
      · obtain ⟨v, l5, l4⟩ := hlo rfl rfl rfl
        have HL5 := hide l5; have HL4 := hide l4
        clear hlo l5 l4
        go_wp2_with (first
        | (go_at_call_of 75 (Value.string ds); go_must (refine (unhide H1 _).mono ?_; rintro e w1 ⟨rfl, hw1⟩; obtain rfl : V = w1 := hw1.symm))
        | (go_at_call 75; go_must (refine (unhide H2 _).mono ?_; rintro e w1 ⟨rfl, hw1⟩; obtain rfl : V = w1 := hw1.symm))
        | (go_at_call 77; go_must (refine (unhide HL5 _).mono ?_; rintro e w2 ⟨rfl, hb2⟩; have HR2 : Hid (T2 w2 w.heap.size (.string ⟨#[]⟩) (.string ⟨#[]⟩) ∧ Below w.heap.size w w2) := ⟨(unhide HR).1.later hb2, (unhide HR).2.trans (hb2.mono (unhide HR).2.size)⟩; clear hb2))
        | (go_at_call 76; go_must (refine (unhide HL4 _).mono ?_; rintro e w3 ⟨rfl, hb3⟩; have HR3 : Hid (T2 w3 w.heap.size (.string ⟨#[]⟩) (.string ⟨#[]⟩) ∧ Below w.heap.size w w3) := ⟨(unhide HR2).1.later hb3, (unhide HR2).2.trans (hb3.mono (unhide HR2).2.size)⟩; clear hb3; have r0 := (unhide HR3).1.c0; have r1' := (unhide HR3).1.c1; have rf0 := (unhide HR3).1.f0; have rf1 := (unhide HR3).1.f1)))
        have hS := (unhide HR3).1.store (.string rn) (.string rd)
        have hb : Below w.heap.size w (store2 w3 (w.heap.size) (.string rn) (.string rd)) := below_store2 (unhide HR3).2 (by omega) _ _
        have u0 := hS.c0; have u1 := hS.c1
        exact bodyPost_ret (v := .tuple #[.agg #[.string rn, .string rd], .int .i64 0]) (w := store2 w3 (w.heap.size) (.string rn) (.string rd)) (by simp [results, Tryz.results18, go_sem, u0, u1]) rfl ⟨rfl, hb⟩
    · have h45' := h45 hp
      have hs' : (0 : Int) < (ds.size : Int) := by omega
      clear h45
      go_enter Tryz.func18, Tryz.ntmps18
      go_upto_region 4 with fail
      rw [← unhide HV]
      clear hV HV h45' hs' he
      rcases h with ⟨hh, rfl, rfl, rfl⟩ | ⟨rfl, rfl, rfl, rfl, rfl, rfl⟩ | ⟨rfl, rfl, rfl, rfl⟩
      · clear hlo
        have r0 := (unhide HR).1.c0; have q1 := (unhide HR).1.c1; have rf0 := (unhide HR).1.f0; have rf1 := (unhide HR).1.f1
        cases r1 with
        | false =>
          clear hh z2
          go_wp2_with (first
        | (go_at_call_of 75 (Value.string ds); go_must (refine (unhide H1 _).mono ?_; rintro e w1 ⟨rfl, hw1⟩; obtain rfl : V = w1 := hw1.symm))
        | (go_at_call 75; go_must (refine (unhide H2 _).mono ?_; rintro e w1 ⟨rfl, hw1⟩; obtain rfl : V = w1 := hw1.symm)))
          have hS := (unhide HR).1.store (.string ⟨#[]⟩) (.string ⟨#[]⟩)
          have hb : Below w.heap.size w (store2 V (w.heap.size) (.string ⟨#[]⟩) (.string ⟨#[]⟩)) := below_store2 (unhide HR).2 (by omega) _ _
          have u0 := hS.c0; have u1 := hS.c1
          exact bodyPost_ret (v := .tuple #[.agg #[.string ⟨#[]⟩, .string ⟨#[]⟩], .int .i64 3]) (w := store2 V (w.heap.size) (.string ⟨#[]⟩) (.string ⟨#[]⟩)) (by simp [results, Tryz.results18, go_sem, u0, u1]) rfl ⟨rfl, hb⟩
        | true =>
          obtain rfl : r2 = false := by simpa using hh
          clear hh z2
          go_wp2_with (first
        | (go_at_call_of 75 (Value.string ds); go_must (refine (unhide H1 _).mono ?_; rintro e w1 ⟨rfl, hw1⟩; obtain rfl : V = w1 := hw1.symm))
        | (go_at_call 75; go_must (refine (unhide H2 _).mono ?_; rintro e w1 ⟨rfl, hw1⟩; obtain rfl : V = w1 := hw1.symm)))
          have hS := (unhide HR).1.store (.string ⟨#[]⟩) (.string ⟨#[]⟩)
          have hb : Below w.heap.size w (store2 V (w.heap.size) (.string ⟨#[]⟩) (.string ⟨#[]⟩)) := below_store2 (unhide HR).2 (by omega) _ _
          have u0 := hS.c0; have u1 := hS.c1
          exact bodyPost_ret (v := .tuple #[.agg #[.string ⟨#[]⟩, .string ⟨#[]⟩], .int .i64 3]) (w := store2 V (w.heap.size) (.string ⟨#[]⟩) (.string ⟨#[]⟩)) (by simp [results, Tryz.results18, go_sem, u0, u1]) rfl ⟨rfl, hb⟩
      · clear hlo
        have r0 := (unhide HR).1.c0; have q1 := (unhide HR).1.c1; have rf0 := (unhide HR).1.f0; have rf1 := (unhide HR).1.f1
        go_wp2_with (first
        | (go_at_call_of 75 (Value.string ds); go_must (refine (unhide H1 _).mono ?_; rintro e w1 ⟨rfl, hw1⟩; obtain rfl : V = w1 := hw1.symm))
        | (go_at_call 75; go_must (refine (unhide H2 _).mono ?_; rintro e w1 ⟨rfl, hw1⟩; obtain rfl : V = w1 := hw1.symm)))
        have hS := (unhide HR).1.store (.string ⟨#[]⟩) (.string ⟨#[]⟩)
        have hb : Below w.heap.size w (store2 V (w.heap.size) (.string ⟨#[]⟩) (.string ⟨#[]⟩)) := below_store2 (unhide HR).2 (by omega) _ _
        have u0 := hS.c0; have u1 := hS.c1
        exact bodyPost_ret (v := .tuple #[.agg #[.string ⟨#[]⟩, .string ⟨#[]⟩], .int .i64 8]) (w := store2 V (w.heap.size) (.string ⟨#[]⟩) (.string ⟨#[]⟩)) (by simp [results, Tryz.results18, go_sem, u0, u1]) rfl ⟨rfl, hb⟩
      · obtain ⟨v, l5, l4⟩ := hlo rfl rfl rfl
        have HL5 := hide l5; have HL4 := hide l4
        clear hlo l5 l4
        go_wp2_with (first
        | (go_at_call_of 75 (Value.string ds); go_must (refine (unhide H1 _).mono ?_; rintro e w1 ⟨rfl, hw1⟩; obtain rfl : V = w1 := hw1.symm))
        | (go_at_call 75; go_must (refine (unhide H2 _).mono ?_; rintro e w1 ⟨rfl, hw1⟩; obtain rfl : V = w1 := hw1.symm))
        | (go_at_call 77; go_must (refine (unhide HL5 _).mono ?_; rintro e w2 ⟨rfl, hb2⟩; have HR2 : Hid (T2 w2 w.heap.size (.string ⟨#[]⟩) (.string ⟨#[]⟩) ∧ Below w.heap.size w w2) := ⟨(unhide HR).1.later hb2, (unhide HR).2.trans (hb2.mono (unhide HR).2.size)⟩; clear hb2))
        | (go_at_call 76; go_must (refine (unhide HL4 _).mono ?_; rintro e w3 ⟨rfl, hb3⟩; have HR3 : Hid (T2 w3 w.heap.size (.string ⟨#[]⟩) (.string ⟨#[]⟩) ∧ Below w.heap.size w w3) := ⟨(unhide HR2).1.later hb3, (unhide HR2).2.trans (hb3.mono (unhide HR2).2.size)⟩; clear hb3; have r0 := (unhide HR3).1.c0; have r1' := (unhide HR3).1.c1; have rf0 := (unhide HR3).1.f0; have rf1 := (unhide HR3).1.f1)))
        have hS := (unhide HR3).1.store (.string rn) (.string rd)
        have hb : Below w.heap.size w (store2 w3 (w.heap.size) (.string rn) (.string rd)) := below_store2 (unhide HR3).2 (by omega) _ _
        have u0 := hS.c0; have u1 := hS.c1
        exact bodyPost_ret (v := .tuple #[.agg #[.string rn, .string rd], .int .i64 0]) (w := store2 w3 (w.heap.size) (.string rn) (.string rd)) (by simp [results, Tryz.results18, go_sem, u0, u1]) rfl ⟨rfl, hb⟩
end Go.Proofs.YtndhinoomlofgaaGreatDoor
