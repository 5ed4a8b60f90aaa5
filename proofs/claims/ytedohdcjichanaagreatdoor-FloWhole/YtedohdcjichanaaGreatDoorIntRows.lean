/- A row of whole numbers (int64) that is handed in, opened: what it holds, and how long it can be. -/
import Derived.Test.YtedohdcjichanaaGreatDoorSt
import Derived.Laws.Externs
import Derived.Laws.BitsAllLaws
import Derived.WalkLawsBesides
import Derived.Test.YtedohdcjichanaaGreatDoorCmp
import Derived.Laws.FloatArith
import Derived.Sort.OwnSorted
import Derived.Laws.AppendOwnNone
import Derived.WalkSmall
import Derived.BigQuiet
import Derived.Lib.SmallJoins
import Derived.OwnWalk
import Derived.Test.YtedohdcjichanaaGreatDoorLimb5
import Derived.SizedLaws
import Derived.Carry
namespace Go.Proofs.YtedohdcjichanaaGreatDoor
open Go.RowKit
theorem run_bits (b : Nat) (w : World) : (callFunc 19 #[.float .f64 b]).run Tryz.prog w = .ok (.value (.int .u64 b)) w :=
  (run_callFunc_extern Tryz.func19 (by kernel_rfl) (by kernel_rfl) (by kernel_rfl) (show Extern.find Tryz.f19 = some Extern.MathFloatBits.float64bits by kernel_rfl) _ _).trans rfl
theorem run_from (b : Int) (w : World) : (callFunc 28 #[.int .u64 b]).run Tryz.prog w = .ok (.value (.float .f64 b.toNat)) w :=
  (run_callFunc_extern Tryz.func28 (by kernel_rfl) (by kernel_rfl) (by kernel_rfl) (show Extern.find Tryz.f28 = some Extern.MathFloatBits.float64frombits by kernel_rfl) _ _).trans rfl
/-- No number: by its bits. -/
def nanB (b : Nat) : Bool := decide (9218868437227405312 < b % 9223372036854775808)
theorem sign_lt : Ieee.double.signWeight = 9223372036854775808 := by decide +kernel
theorem inf_is : Ieee.double.infRung = 9218868437227405312 := by decide +kernel
theorem binade_is : Ieee.double.binade = 4503599627370496 := by decide +kernel
theorem least_is : Ieee.double.leastPlace = -1074 := by decide +kernel
theorem order_self (b : Nat) : (FloatKind.f64.format.order b b == some Ordering.eq) = !nanB b := by
  show ((Ieee.double.read b).order (Ieee.double.read b) == some Ordering.eq) = _
  unfold nanB Ieee.Format.read
  simp only [sign_lt, inf_is, binade_is]
  by_cases h1 : b % 9223372036854775808 < 4503599627370496
  · rw [if_pos h1]
    have h : ¬ 9218868437227405312 < b % 9223372036854775808 := by omega
    simp [Ieee.Datum.order, h]
  · rw [if_neg h1]
    by_cases h2 : b % 9223372036854775808 < 9218868437227405312
    · rw [if_pos h2]
      have h : ¬ 9218868437227405312 < b % 9223372036854775808 := by omega
      simp [Ieee.Datum.order, h]
    · rw [if_neg h2]
      by_cases h3 : b % 9223372036854775808 = 9218868437227405312
      · rw [if_pos h3]; simp [Ieee.Datum.order, h3]
      · rw [if_neg h3]
        have h : 9218868437227405312 < b % 9223372036854775808 := by omega
        simp [Ieee.Datum.order, h]
theorem order_neq (b : Nat) : (FloatKind.f64.format.order b b != some Ordering.eq) = nanB b := by unfold bne; rw [order_self]; simp
/-- None is above the greatest finite one but what is infinite. -/
theorem gt_max (b : Nat) (hb : b < 18446744073709551616) : (FloatKind.f64.format.order b 9218868437227405311 == some Ordering.gt) = decide (b = 9218868437227405312) := by
  have hm : Ieee.double.read 9218868437227405311 = .number false 9007199254740991 971 := by decide +kernel
  show ((Ieee.double.read b).order (Ieee.double.read 9218868437227405311) == some Ordering.gt) = _
  rw [hm]
  have hfin : ∀ (s : Bool) (m : Nat) (i : Int), m ≤ 9007199254740991 → i ≤ 971 → ((Ieee.Datum.number s m i).order (.number false 9007199254740991 971) == some Ordering.gt) = false := by
    intro s m i hm hi
    have hmin : min i 971 = i := by omega
    simp only [Ieee.Datum.order, hmin, Int.sub_self, Int.toNat_zero]
    have h1 : Ieee.signed s m 0 ≤ (m : Int) := by unfold Ieee.signed; split <;> simp <;> omega
    have h2 : (m : Int) ≤ Ieee.signed false 9007199254740991 (971 - i).toNat := by
      unfold Ieee.signed
      rw [if_neg (by simp), Nat.shiftLeft_eq]
      have := Nat.le_mul_of_pos_right 9007199254740991 (Nat.two_pow_pos (971 - i).toNat)
      omega
    have h3 : Ieee.signed s m 0 ≤ Ieee.signed false 9007199254740991 (971 - i).toNat := Int.le_trans h1 h2
    generalize Ieee.signed s m 0 = x at *
    generalize Ieee.signed false 9007199254740991 (971 - i).toNat = y at *
    have : compare x y ≠ Ordering.gt := by
      simp only [compare, compareOfLessAndEq]
      split
      · simp
      · split
        · simp
        · omega
    cases h : compare x y <;> simp_all
  unfold Ieee.Format.read
  simp only [sign_lt, inf_is, binade_is, least_is]
  by_cases h1 : b % 9223372036854775808 < 4503599627370496
  · rw [if_pos h1, hfin _ _ _ (by omega) (by omega)]
    exact (decide_eq_false (by omega)).symm
  · rw [if_neg h1]
    by_cases h2 : b % 9223372036854775808 < 9218868437227405312
    · rw [if_pos h2, hfin _ _ _ (by omega) (by omega)]
      exact (decide_eq_false (by omega)).symm
    · rw [if_neg h2]
      by_cases h3 : b % 9223372036854775808 = 9218868437227405312
      · rw [if_pos h3]
        by_cases h4 : b = 9218868437227405312
        · subst h4; decide +kernel
        · have : (b / 9223372036854775808 % 2 == 1) = true := by rw [beq_iff_eq]; omega
          rw [this]
          simp [Ieee.Datum.order, h4]
      · rw [if_neg h3]
        have h4 : b ≠ 9218868437227405312 := by omega
        simp [Ieee.Datum.order, h4]
theorem and_low (b : Nat) : b &&& 9223372036854775807 = b % 9223372036854775808 := Nat.and_two_pow_sub_one_eq_mod b 63
theorem and_top (b : Nat) (hb : b < 18446744073709551616) : b &&& 9223372036854775808 = if b < 9223372036854775808 then 0 else 9223372036854775808 := by
  have e : (9223372036854775808 : Nat) = 2 ^ 63 := rfl
  apply Nat.eq_of_testBit_eq
  intro i
  rw [Nat.testBit_and]
  by_cases hi : 63 = i
  · subst hi
    rw [Nat.testBit_eq_decide_div_mod_eq]
    split
    · have h1 : b / 2 ^ 63 = 0 := by omega
      simp [h1]
    · have h1 : b / 2 ^ 63 = 1 := by omega
      simp [h1]
  · have h0 : (9223372036854775808 : Nat).testBit i = false := by rw [e, Nat.testBit_two_pow]; simpa using hi
    rw [h0, Bool.and_false]
    split
    · simp
    · exact h0.symm
theorem or_top (b : Nat) (hb : b < 9223372036854775808) : b ||| 9223372036854775808 = b + 9223372036854775808 := by
  have := Nat.two_pow_add_eq_or_of_lt (i := 63) (b := b) (by simpa using hb) 1
  rw [Nat.or_comm]
  simp at this
  first | omega | (rw [← this]; omega) | skip
theorem xor_all (b : Nat) (hb : b < 18446744073709551616) : b ^^^ 18446744073709551615 = 18446744073709551615 - b := by
  apply Nat.eq_of_testBit_eq
  intro i
  have e : 18446744073709551615 - b = 2 ^ 64 - (b + 1) := by omega
  rw [e, Nat.testBit_two_pow_sub_succ (by simpa using hb), Nat.testBit_xor]
  have e2 : (18446744073709551615 : Nat) = 2 ^ 64 - 1 := rfl
  rw [e2, Nat.testBit_two_pow_sub_one]
  by_cases hi : i < 64
  · simp [hi]
  · have : b.testBit i = false := Nat.testBit_lt_two_pow (Nat.lt_of_lt_of_le (by simpa using hb) (Nat.pow_le_pow_right (n := 2) (i := 64) (by decide) (by omega)))
    simp [hi, this]
theorem xor_top (b : Nat) (hb : b < 9223372036854775808) : b ^^^ 9223372036854775808 = b + 9223372036854775808 := by
  have h : b &&& 9223372036854775808 = 0 := by rw [and_top b (by omega), if_pos hb]
  have h2 := or_top b hb
  rw [← h2]
  apply Nat.eq_of_testBit_eq
  intro i
  have h3 : (b &&& 9223372036854775808).testBit i = false := by rw [h]; simp
  rw [Nat.testBit_and] at h3
  rw [Nat.testBit_xor, Nat.testBit_or]
  revert h3
  cases b.testBit i <;> cases (9223372036854775808 : Nat).testBit i <;> simp
attribute [local go_sem] run_bits run_from
set_option maxRecDepth 100000 in
theorem isNaN_any (b : Nat) (w : World) : Calls Tryz.prog 25 #[.float .f64 b] w fun e w' => e = .returned (.bool (nanB b)) ∧ w' = w := by
  have h2 := order_neq b
  go_enter Tryz.func25, Tryz.ntmps25
  go_wp2
  go_ret
  exact ⟨rfl, rfl⟩
theorem andNot_top (b : Nat) (hb : b < 18446744073709551616) : bits BinOp.andNot IntKind.u64 (b : Int) 9223372036854775808 = ((b % 9223372036854775808 : Nat) : Int) := by
  have := u64_andNot_nat b 9223372036854775808 hb (by decide)
  rw [← and_low]; exact this
theorem andI_top (b : Nat) (hb : b < 18446744073709551616) : bits BinOp.and IntKind.u64 (b : Int) 9223372036854775808 = if b < 9223372036854775808 then 0 else 9223372036854775808 := by
  have := u64_and_nat b 9223372036854775808 hb (by decide)
  rw [and_top b hb] at this
  refine this.trans ?_
  split <;> rfl
theorem orI_top (b : Nat) (hb : b < 9223372036854775808) : bits BinOp.or IntKind.u64 (b : Int) 9223372036854775808 = ((b + 9223372036854775808 : Nat) : Int) := by
  have := u64_or_nat b 9223372036854775808 (by omega) (by decide)
  rw [or_top b hb] at this; exact this
set_option maxRecDepth 100000 in
theorem abs_any (b : Nat) (hb : b < 18446744073709551616) (w : World) : Calls Tryz.prog 20 #[.float .f64 b] w fun e w' => e = .returned (.float .f64 (b % 9223372036854775808)) ∧ w' = w := by
  have h := andNot_top b hb
  go_enter Tryz.func20, Tryz.ntmps20
  go_wp2
  go_ret
  exact ⟨rfl, rfl⟩
/-- A number that rises with the order. -/
def rk (b : Nat) : Nat := if nanB b then 18446744073709551615 else if b < 9223372036854775808 then b + 9223372036854775808 else 18446744073709551615 - b
set_option maxRecDepth 100000 in
theorem rank_any (b : Nat) (hb : b < 18446744073709551616) (w : World) : Calls Tryz.prog 24 #[.float .f64 b] w fun e w' => e = .returned (.int .u64 (rk b : Nat)) ∧ w' = w := by
  have h := andI_top b hb
  unfold rk
  by_cases hn : nanB b = true
  · rw [if_pos hn]
    go_enter Tryz.func24, Tryz.ntmps24
    go_wp2_with (go_at_call 25; refine (isNaN_any b _).mono ?_; rintro e w' ⟨rfl, rfl⟩)
    go_ret
    exact ⟨rfl, rfl⟩
  · have hn' : nanB b = false := by simpa using hn
    rw [if_neg hn]
    by_cases hs : b < 9223372036854775808
    · rw [if_pos hs] at h ⊢
      have h3 := orI_top b hs
      go_enter Tryz.func24, Tryz.ntmps24
      go_wp2_with (go_at_call 25; refine (isNaN_any b _).mono ?_; rintro e w' ⟨rfl, rfl⟩)
      go_ret
      exact ⟨rfl, rfl⟩
    · rw [if_neg hs] at h ⊢
      have h3 : bits BinOp.xor IntKind.u64 IntKind.u64.max (b : Int) = ((18446744073709551615 - b : Nat) : Int) := by
        have := u64_xor_nat 18446744073709551615 b (by decide) hb
        rw [Nat.xor_comm, xor_all b hb] at this; exact this
      go_enter Tryz.func24, Tryz.ntmps24
      go_wp2_with (go_at_call 25; refine (isNaN_any b _).mono ?_; rintro e w' ⟨rfl, rfl⟩)
      go_ret
      exact ⟨rfl, rfl⟩
theorem rk_lt (b : Nat) : rk b < 18446744073709551616 := by
  unfold rk
  split
  · decide
  · split <;> omega
end Go.Proofs.YtedohdcjichanaaGreatDoor

namespace Go.Proofs.YtedohdcjichanaaGreatDoor
open Go.RowKit
theorem run_negF (b : Nat) : Op.unary .neg (.float .f64 b) = (pure (.float .f64 (Op.negFloat .f64 b)) : Sem Value) := rfl
attribute [local go_sem] run_bits run_from run_negF
theorem xorF (b : Nat) : Op.negFloat .f64 b = b ^^^ 9223372036854775808 := rfl
theorem xor_off (b : Nat) (h1 : 9223372036854775808 ≤ b) (hb : b < 18446744073709551616) : b ^^^ 9223372036854775808 = b - 9223372036854775808 := by
  have h := xor_top (b - 9223372036854775808) (by omega)
  have e : b = (b - 9223372036854775808) ^^^ 9223372036854775808 := by rw [h]; omega
  conv => lhs; rw [e]
  rw [Nat.xor_assoc, Nat.xor_self, Nat.xor_zero]
theorem gt_max_neg (b : Nat) (hb : b < 18446744073709551616) : (FloatKind.f64.format.order (Op.negFloat .f64 b) 9218868437227405311 == some Ordering.gt) = decide (b = 18442240474082181120) := by
  rw [xorF]
  rcases Nat.lt_or_ge b 9223372036854775808 with h | h
  · rw [xor_top b h, gt_max _ (by omega)]
    rw [Bool.eq_iff_iff, decide_eq_true_eq, decide_eq_true_eq]; omega
  · rw [xor_off b h hb, gt_max _ (by omega)]
    rw [Bool.eq_iff_iff, decide_eq_true_eq, decide_eq_true_eq]; omega
set_option maxRecDepth 100000 in
theorem isInf_posC (b : Nat) (d : Bool) (h : (FloatKind.f64.format.order b 9218868437227405311 == some Ordering.gt) = d) (w : World) : Calls Tryz.prog 26 #[.float .f64 b, .int .i64 1] w fun e w' => e = .returned (.bool d) ∧ w' = w := by
  go_enter Tryz.func26, Tryz.ntmps26
  go_wp2
  exact bodyPost_ret (v := .bool d) (by simp [results, Tryz.results26, go_sem]) rfl ⟨rfl, rfl⟩
theorem isInf_pos (b : Nat) (hb : b < 18446744073709551616) (w : World) : Calls Tryz.prog 26 #[.float .f64 b, .int .i64 1] w fun e w' => e = .returned (.bool (decide (b = 9218868437227405312))) ∧ w' = w := isInf_posC b _ (gt_max b hb) w
set_option maxRecDepth 100000 in
theorem isInf_negC (b c : Nat) (d : Bool) (hc : Op.negFloat .f64 b = c) (h : (FloatKind.f64.format.order c 9218868437227405311 == some Ordering.gt) = d) (w : World) : Calls Tryz.prog 26 #[.float .f64 b, .int .i64 (-1)] w fun e w' => e = .returned (.bool d) ∧ w' = w := by
  go_enter Tryz.func26, Tryz.ntmps26
  go_wp2
  exact bodyPost_ret (v := .bool d) (by simp [results, Tryz.results26, go_sem]) rfl ⟨rfl, rfl⟩
theorem isInf_neg (b : Nat) (hb : b < 18446744073709551616) (w : World) : Calls Tryz.prog 26 #[.float .f64 b, .int .i64 (-1)] w fun e w' => e = .returned (.bool (decide (b = 18442240474082181120))) ∧ w' = w := isInf_negC b _ _ rfl (gt_max_neg b hb) w
def orF (n : Nat) : Nat := if n < 9223372036854775808 then 18446744073709551615 - n else n - 9223372036854775808
set_option maxRecDepth 100000 in
theorem ofRank_low (n m : Nat) (h : bits BinOp.and IntKind.u64 (n : Int) 9223372036854775808 = 0) (h3 : bits BinOp.xor IntKind.u64 IntKind.u64.max (n : Int) = (m : Int)) (w : World) : Calls Tryz.prog 27 #[.int .u64 (n : Int)] w fun e w' => e = .returned (.float .f64 m) ∧ w' = w := by
  go_enter Tryz.func27, Tryz.ntmps27
  go_wp2
  go_ret
  exact ⟨by simp, rfl⟩
set_option maxRecDepth 100000 in
theorem ofRank_high (n m : Nat) (h : bits BinOp.and IntKind.u64 (n : Int) 9223372036854775808 = 9223372036854775808) (h3 : bits BinOp.andNot IntKind.u64 (n : Int) 9223372036854775808 = (m : Int)) (w : World) : Calls Tryz.prog 27 #[.int .u64 (n : Int)] w fun e w' => e = .returned (.float .f64 m) ∧ w' = w := by
  go_enter Tryz.func27, Tryz.ntmps27
  go_wp2
  go_ret
  exact ⟨by simp, rfl⟩
theorem ofRank_any (n : Nat) (hb : n < 18446744073709551616) (w : World) : Calls Tryz.prog 27 #[.int .u64 (n : Int)] w fun e w' => e = .returned (.float .f64 (orF n)) ∧ w' = w := by
  have h := andI_top n hb
  by_cases hs : n < 9223372036854775808
  · rw [if_pos hs] at h
    have e : orF n = 18446744073709551615 - n := if_pos hs
    have h3 := u64_xor_nat 18446744073709551615 n (by decide) hb
    rw [Nat.xor_comm, xor_all n hb] at h3
    rw [e]
    exact ofRank_low n _ h h3 w
  · rw [if_neg hs] at h
    have e : orF n = n - 9223372036854775808 := if_neg hs
    have h3 := andNot_top n hb
    rw [show n % 9223372036854775808 = n - 9223372036854775808 by omega] at h3
    rw [e]
    exact ofRank_high n _ h h3 w
theorem isNaNu_any (a : Int) (w : World) : Calls Tryz.prog 37 #[.int .u64 a] w fun e w' => e = .returned (.bool false) ∧ w' = w := by
  go_enter Tryz.func37, Tryz.ntmps37
  go_wp2
  go_ret
  exact ⟨rfl, rfl⟩
set_option maxRecDepth 100000 in
theorem cmpu_any (a b : Nat) (w : World) : Calls Tryz.prog 23 #[.int .u64 (a : Int), .int .u64 (b : Int)] w fun e w' => e = .returned (.int .i64 (Cub.cmpN a b)) ∧ w' = w := by
  unfold Cub.cmpN
  by_cases h : a < b
  · rw [if_pos h]
    have h1 : (a : Int) < (b : Int) := by omega
    go_enter Tryz.func23, Tryz.ntmps23
    go_wp2_with (go_at_call 37; refine (isNaNu_any _ _).mono ?_; rintro e w' ⟨rfl, rfl⟩)
    go_ret
    exact ⟨rfl, rfl⟩
  · rw [if_neg h]
    by_cases h2 : b < a
    · rw [if_pos h2]
      have h1 : ¬ (a : Int) < (b : Int) := by omega
      have h3 : (b : Int) < (a : Int) := by omega
      go_enter Tryz.func23, Tryz.ntmps23
      go_wp2_with (go_at_call 37; refine (isNaNu_any _ _).mono ?_; rintro e w' ⟨rfl, rfl⟩)
      go_ret
      exact ⟨rfl, rfl⟩
    · rw [if_neg h2]
      have h1 : ¬ (a : Int) < (b : Int) := by omega
      have h3 : ¬ (b : Int) < (a : Int) := by omega
      go_enter Tryz.func23, Tryz.ntmps23
      go_wp2_with (go_at_call 37; refine (isNaNu_any _ _).mono ?_; rintro e w' ⟨rfl, rfl⟩)
      go_ret
      exact ⟨rfl, rfl⟩
set_option maxRecDepth 100000 in
theorem order_any (a b : Nat) (ha : a < 18446744073709551616) (hb : b < 18446744073709551616) (w : World) : Calls Tryz.prog 17 #[.float .f64 a, .float .f64 b] w fun e w' => e = .returned (.int .i64 (Cub.cmpN (rk a) (rk b))) ∧ w' = w := by
  go_enter Tryz.func17, Tryz.ntmps17
  go_wp2_with (first
    | (go_at_call_of 24 (Value.float FloatKind.f64 a); refine (rank_any a ha _).mono ?_; rintro e w' ⟨rfl, rfl⟩)
    | (go_at_call 24; refine (rank_any b hb _).mono ?_; rintro e w' ⟨rfl, rfl⟩)
    | (go_at_call 23; refine (cmpu_any (rk a) (rk b) _).mono ?_; rintro e w' ⟨rfl, rfl⟩))
  go_ret
  exact ⟨rfl, rfl⟩
/-- The next one, up or down. -/
def nextF (b : Nat) (up : Bool) : Nat := if nanB b || (up && decide (b = 9218868437227405312)) || (!up && decide (b = 18442240474082181120)) then b else if up then orF ((rk b + 1) % 18446744073709551616) else orF ((rk b + 18446744073709551615) % 18446744073709551616)
theorem next_core (b : Nat) (up n1 n2 n3 : Bool) (r r1 r2 o1 o2 : Nat) (w : World) (h1 : ∀ W, Calls Tryz.prog 25 #[.float .f64 b] W fun e w' => e = .returned (.bool n1) ∧ w' = W)
    (h2 : ∀ W, Calls Tryz.prog 26 #[.float .f64 b, .int .i64 1] W fun e w' => e = .returned (.bool n2) ∧ w' = W) (h3 : ∀ W, Calls Tryz.prog 26 #[.float .f64 b, .int .i64 (-1)] W fun e w' => e = .returned (.bool n3) ∧ w' = W)
    (hr : ∀ W, Calls Tryz.prog 24 #[.float .f64 b] W fun e w' => e = .returned (.int .u64 (r : Int)) ∧ w' = W) (e1 : IntKind.u64.wrap ((r : Int) + 1) = (r1 : Int)) (e2 : IntKind.u64.wrap ((r : Int) - 1) = (r2 : Int))
    (ho1 : ∀ W, Calls Tryz.prog 27 #[.int .u64 (r1 : Int)] W fun e w' => e = .returned (.float .f64 o1) ∧ w' = W) (ho2 : ∀ W, Calls Tryz.prog 27 #[.int .u64 (r2 : Int)] W fun e w' => e = .returned (.float .f64 o2) ∧ w' = W) :
    Calls Tryz.prog 18 #[.float .f64 b, .bool up] w fun e w' => e = .returned (.float .f64 (if n1 || (up && n2) || (!up && n3) then b else if up then o1 else o2)) ∧ w' = w := by
  have H1 := hide h1
  have H2 := hide h2
  have H3 := hide h3
  have HR := hide hr
  have HO1 := hide ho1
  have HO2 := hide ho2
  clear h1 h2 h3 hr ho1 ho2
  cases n1
  · cases up
    · cases n3
      · go_enter Tryz.func18, Tryz.ntmps18
        go_wp2_with (first
          | (go_at_call 25; refine (unhide H1 _).mono ?_; rintro e w' ⟨rfl, rfl⟩)
          | (go_at_call 26; refine (unhide H3 _).mono ?_; rintro e w' ⟨rfl, rfl⟩)
          | (go_at_call 24; refine (unhide HR _).mono ?_; rintro e w' ⟨rfl, rfl⟩)
          | (go_at_call 27; refine (unhide HO2 _).mono ?_; rintro e w' ⟨rfl, rfl⟩))
        go_ret
        exact ⟨by simp, rfl⟩
      · go_enter Tryz.func18, Tryz.ntmps18
        go_wp2_with (first
          | (go_at_call 25; refine (unhide H1 _).mono ?_; rintro e w' ⟨rfl, rfl⟩)
          | (go_at_call 26; refine (unhide H3 _).mono ?_; rintro e w' ⟨rfl, rfl⟩))
        go_ret
        exact ⟨by simp, rfl⟩
    · cases n2
      · go_enter Tryz.func18, Tryz.ntmps18
        go_wp2_with (first
          | (go_at_call 25; refine (unhide H1 _).mono ?_; rintro e w' ⟨rfl, rfl⟩)
          | (go_at_call 26; refine (unhide H2 _).mono ?_; rintro e w' ⟨rfl, rfl⟩)
          | (go_at_call 24; refine (unhide HR _).mono ?_; rintro e w' ⟨rfl, rfl⟩)
          | (go_at_call 27; refine (unhide HO1 _).mono ?_; rintro e w' ⟨rfl, rfl⟩))
        go_ret
        exact ⟨by simp, rfl⟩
      · go_enter Tryz.func18, Tryz.ntmps18
        go_wp2_with (first
          | (go_at_call 25; refine (unhide H1 _).mono ?_; rintro e w' ⟨rfl, rfl⟩)
          | (go_at_call 26; refine (unhide H2 _).mono ?_; rintro e w' ⟨rfl, rfl⟩))
        go_ret
        exact ⟨by simp, rfl⟩
  · go_enter Tryz.func18, Tryz.ntmps18
    go_wp2_with (go_at_call 25; refine (unhide H1 _).mono ?_; rintro e w' ⟨rfl, rfl⟩)
    go_ret
    exact ⟨by simp, rfl⟩
theorem next_any (b : Nat) (up : Bool) (hb : b < 18446744073709551616) (w : World) : Calls Tryz.prog 18 #[.float .f64 b, .bool up] w fun e w' => e = .returned (.float .f64 (nextF b up)) ∧ w' = w := by
  have hr := rk_lt b
  exact next_core b up _ _ _ (rk b) ((rk b + 1) % 18446744073709551616) ((rk b + 18446744073709551615) % 18446744073709551616) _ _ w (isNaN_any b) (isInf_pos b hb) (isInf_neg b hb) (rank_any b hb) (by rw [IntKind.wrap_u64]; omega) (by rw [IntKind.wrap_u64]; omega) (fun W => ofRank_any _ (Nat.mod_lt _ (by decide)) W) (fun W => ofRank_any _ (Nat.mod_lt _ (by decide)) W)
end Go.Proofs.YtedohdcjichanaaGreatDoor

namespace Go.Proofs.YtedohdcjichanaaGreatDoor
open Go.RowKit
attribute [local go_sem] run_bits run_from
/-- What the model may choose for 'no number'. -/
def nanC (t : Nat) : Nat := t % 2 * 2 ^ 63 + 0x7ff0000000000000 + 1 + t / 2 % (2 ^ 52 - 1)
theorem nanC_nan (t : Nat) : nanB (nanC t) = true := by
  have h2 : t / 2 % (2 ^ 52 - 1) < 2 ^ 52 - 1 := Nat.mod_lt _ (by decide)
  unfold nanB nanC
  simp only [decide_eq_true_eq]
  generalize t / 2 % (2 ^ 52 - 1) = k at *
  rcases Nat.mod_two_eq_zero_or_one t with h | h <;> rw [h] <;> omega
theorem nanC_lt (t : Nat) : nanC t < 18446744073709551616 := by unfold nanC; omega
/-- No number reads as such. -/
theorem read_nan (b : Nat) (h : nanB b = true) : ∃ s p, Ieee.double.read b = .nan s p := by
  have h' : 9218868437227405312 < b % 9223372036854775808 := by simpa [nanB] using h
  unfold Ieee.Format.read
  simp only [sign_lt, inf_is, binade_is]
  rw [if_neg (by omega), if_neg (by omega), if_neg (by omega)]
  exact ⟨_, _, rfl⟩
theorem order_nan_l (b c : Nat) (h : nanB b = true) : FloatKind.f64.format.order b c = none := by
  show (Ieee.double.read b).order (Ieee.double.read c) = none
  obtain ⟨s, p, e⟩ := read_nan b h
  rw [e]
  rfl
theorem order_nan_r (b c : Nat) (h : nanB c = true) : FloatKind.f64.format.order b c = none := by
  show (Ieee.double.read b).order (Ieee.double.read c) = none
  obtain ⟨s, p, e⟩ := read_nan c h
  rw [e]
  cases Ieee.double.read b <;> rfl
end Go.Proofs.YtedohdcjichanaaGreatDoor

namespace Go.Proofs.YtedohdcjichanaaGreatDoor
open Go.RowKit
/-- The bits, all that are no number read as one. -/
def nm (b : Nat) : Nat := if nanB b then 9221120237041090561 else b
/-- What an operation gives, read so. -/
def opN (op : BinOp) (x y : Nat) : Nat := match floatBits op .f64 x y with
  | some r => nm r
  | none => 9221120237041090561
/-- What it gives in a world, and the world behind it. -/
def vA (op : BinOp) (x y : Nat) (w : World) : Nat := match floatBits op .f64 x y with
  | some r => r
  | none => nanC (w.tape w.drawn (.nanBits .f64 x y))
def wA (op : BinOp) (x y : Nat) (w : World) : World := match floatBits op .f64 x y with
  | some _ => w
  | none => w.drew
theorem below_wA (op : BinOp) (x y : Nat) {B : Nat} {w W : World} (h : Below B w W) : Below B w (wA op x y W) := by
  unfold wA
  split
  · exact h
  · exact h.drew
theorem vA_lt (op : BinOp) (x y : Nat) (w : World) : vA op x y w < 18446744073709551616 := by
  unfold vA
  split
  · rename_i h
    have := floatBits_wf h
    simpa [Lit.wf] using this
  · exact nanC_lt _
theorem qnan_nan : nanB 9221120237041090561 = true := by decide +kernel
theorem nm_nan {b : Nat} (h : nanB b = true) : nm b = 9221120237041090561 := by unfold nm; rw [if_pos h]
theorem nm_num {b : Nat} (h : nanB b = false) : nm b = b := by unfold nm; rw [if_neg (by rw [h]; decide)]
theorem fb_nan_l (op : BinOp) (x y : Nat) (hop : op = .add ∨ op = .sub ∨ op = .mul) (h : nanB x = true) : floatBits op .f64 x y = none := by
  obtain ⟨s, p, e⟩ := read_nan x h
  rcases hop with rfl | rfl | rfl
  · show ((Ieee.double.read x).sum (Ieee.double.read y)).map _ = none
    rw [e]; rfl
  · show ((Ieee.double.read x).sum (Ieee.double.read y).opposite).map _ = none
    rw [e]; rfl
  · show ((Ieee.double.read x).product (Ieee.double.read y)).map _ = none
    rw [e]; rfl
theorem fb_nan_r (op : BinOp) (x y : Nat) (hop : op = .add ∨ op = .sub ∨ op = .mul) (h : nanB y = true) : floatBits op .f64 x y = none := by
  obtain ⟨s, p, e⟩ := read_nan y h
  rcases hop with rfl | rfl | rfl
  · show ((Ieee.double.read x).sum (Ieee.double.read y)).map _ = none
    rw [e]; cases Ieee.double.read x <;> rfl
  · show ((Ieee.double.read x).sum (Ieee.double.read y).opposite).map _ = none
    rw [e]; cases Ieee.double.read x <;> rfl
  · show ((Ieee.double.read x).product (Ieee.double.read y)).map _ = none
    rw [e]; cases Ieee.double.read x <;> rfl
theorem nm_vA (op : BinOp) (x y : Nat) (w : World) (hop : op = .add ∨ op = .sub ∨ op = .mul) : nm (vA op x y w) = opN op (nm x) (nm y) := by
  cases hx : nanB x
  · cases hy : nanB y
    · rw [nm_num hx, nm_num hy]
      unfold vA opN
      split
      · rfl
      · exact nm_nan (nanC_nan _)
    · rw [nm_nan hy]
      unfold vA opN
      rw [fb_nan_r op x y hop hy, fb_nan_r op _ _ hop qnan_nan]
      exact nm_nan (nanC_nan _)
  · rw [nm_nan hx]
    unfold vA opN
    rw [fb_nan_l op x y hop hx, fb_nan_l op _ _ hop qnan_nan]
    exact nm_nan (nanC_nan _)
theorem run_arith (op : BinOp) (t : TypeId) (P : Program) (w : World) (x y : Nat) (hop : op = .add ∨ op = .sub ∨ op = .mul) : (binOp op t (.float .f64 x) (.float .f64 y)).run P w = .ok (.float .f64 (vA op x y w)) (wA op x y w) := by
  unfold vA wA
  cases e : floatBits op .f64 x y with
  | some r => exact run_float_arith w op t .f64 x y r e
  | none =>
    rcases hop with rfl | rfl | rfl
    all_goals
      simp only [floatBits] at e
      first
      | show (Op.floatArith .add .f64 x y).run P w = _
      | show (Op.floatArith .sub .f64 x y).run P w = _
      | show (Op.floatArith .mul .f64 x y).run P w = _
      unfold Op.floatArith
      simp [e, Question.forced, Question.cut, nanC]
theorem run_add (t : TypeId) (P : Program) (w : World) (x y : Nat) : (binOp .add t (.float .f64 x) (.float .f64 y)).run P w = .ok (.float .f64 (vA .add x y w)) (wA .add x y w) := run_arith _ _ _ _ _ _ (Or.inl rfl)
theorem run_sub (t : TypeId) (P : Program) (w : World) (x y : Nat) : (binOp .sub t (.float .f64 x) (.float .f64 y)).run P w = .ok (.float .f64 (vA .sub x y w)) (wA .sub x y w) := run_arith _ _ _ _ _ _ (Or.inr (Or.inl rfl))
theorem run_mul (t : TypeId) (P : Program) (w : World) (x y : Nat) : (binOp .mul t (.float .f64 x) (.float .f64 y)).run P w = .ok (.float .f64 (vA .mul x y w)) (wA .mul x y w) := run_arith _ _ _ _ _ _ (Or.inr (Or.inr rfl))
theorem nm_add (x y : Nat) (w : World) : nm (vA .add x y w) = opN .add (nm x) (nm y) := nm_vA _ _ _ _ (Or.inl rfl)
theorem nm_sub (x y : Nat) (w : World) : nm (vA .sub x y w) = opN .sub (nm x) (nm y) := nm_vA _ _ _ _ (Or.inr (Or.inl rfl))
/-- Rows of floats. -/
def fV (l : List Nat) : List Value := l.map (Value.float .f64)
theorem fV_length (l : List Nat) : (fV l).length = l.length := by simp [fV]
theorem fV_get (l : List Nat) (i : Nat) (h : i < l.length) : (fV l)[i]? = some (.float .f64 l[i]) := by simp [fV, h]
theorem fV_one (l : List Nat) : ∀ u ∈ fV l, u.oneCell' = true := by
  intro u hu
  unfold fV at hu
  obtain ⟨s, _, rfl⟩ := List.mem_map.1 hu
  rfl
def OwnF (w : World) (base : Nat) (v : Value) (l : List Nat) : Prop := w.ownsRow base 25 1 v l.length (fV l)
def RowF (w : World) (v : Value) (l : List Nat) : Prop :=
  ∃ a cap, v = .slice a l.length cap ∧ l.length ≤ cap ∧ cap ≤ 9223372036854775807 ∧ (a = none → cap = 0) ∧ ∀ i (h : i < l.length), ∃ b o, a = some ⟨b, o, none⟩ ∧ b < w.heap.size ∧ w.cell? ⟨b, o + i, none⟩ = some (.float .f64 l[i])
theorem RowF.later {w w' : World} {v : Value} {l : List Nat} (h : RowF w v l) (hb : Below w.heap.size w w') : RowF w' v l := by
  obtain ⟨a, cap, rfl, hc, hm, hn, hr⟩ := h
  refine ⟨a, cap, rfl, hc, hm, hn, fun i hi => ?_⟩
  obtain ⟨b, o, rfl, hlt, hcell⟩ := hr i hi
  have := hb.size
  exact ⟨b, o, rfl, by omega, (hb.cell (p := ⟨b, o + i, none⟩) hlt).trans hcell⟩
theorem OwnF.later {w w' : World} {base : Nat} {v : Value} {l : List Nat} (h : OwnF w base v l) (hb : Below w.heap.size w w') : OwnF w' base v l := by
  obtain ⟨hx, h2⟩ := h
  refine ⟨hx, ?_⟩
  rcases h2 with h2 | ⟨g, cap, cur, e, hbs, hg, r⟩
  · exact Or.inl h2
  · exact Or.inr ⟨g, cap, cur, e, hbs, (hb.block g (Array.getElem?_eq_some_iff.1 hg).1).trans hg, r⟩
theorem RowF.of_own {w : World} {base : Nat} {v : Value} {l : List Nat} (h : OwnF w base v l) : RowF w v l := by
  have h' : w.ownsRow base 25 1 v l.length (fV l) := h
  rcases Joins.ownsRow_forms h' with ⟨rfl, h0⟩ | ⟨g, cap, rfl⟩
  · exact ⟨none, 0, by rw [h0], by omega, by omega, fun _ => rfl, fun i hi => by omega⟩
  · obtain ⟨hx, h2⟩ := id h'
    rcases h2 with ⟨e, _⟩ | ⟨g', cap', cur, e, hb, hg, hcap, hmax, hsz, htk⟩
    · cases e
    · simp only [Value.slice.injEq, Option.some.injEq, Addr.mk.injEq] at e
      obtain ⟨⟨rfl, _⟩, _, rfl⟩ := e
      refine ⟨some ⟨g, 0, none⟩, cap, rfl, hcap, hmax, fun e => (by cases e), fun i hi => ⟨g, 0, rfl, (Array.getElem?_eq_some_iff.1 hg).1, ?_⟩⟩
      rw [Nat.zero_add, h'.cellAt i (by omega), fV_get l i hi]
theorem RowF.take {w : World} {a : Option Addr} {n cap : Nat} {l : List Nat} (h : RowF w (.slice a n cap) l) (k : Nat) (hk : k ≤ n) : RowF w (.slice a k cap) (l.take k) := by
  obtain ⟨a', cap', e, hc, hm, hn, hr⟩ := h
  simp only [Value.slice.injEq] at e
  obtain ⟨rfl, rfl, rfl⟩ := e
  have hl : (l.take k).length = k := by rw [List.length_take]; omega
  refine ⟨a, cap, by rw [hl], by omega, hm, hn, fun i hi => ?_⟩
  rw [List.getElem_take]
  exact hr i (by omega)
end Go.Proofs.YtedohdcjichanaaGreatDoor

namespace Go.Proofs.YtedohdcjichanaaGreatDoor
open Go.ChangeShapes Go.WideShapes Go.ChangeAt Go.RowKit
theorem under37 : Tryz.prog.underlying 37 = some (.slice 2) := by kernel_rfl
theorem cellsOf2 : Tryz.prog.cellsOf 2 = 1 := by kernel_rfl
theorem und2 : Tryz.prog.underlying 2 = some (.int .i64) := by kernel_rfl
/-- A row of int64 in memory. -/
def RowI (w : World) (v : Value) (l : List Int) : Prop :=
  ∃ a cap, v = .slice a l.length cap ∧ l.length ≤ cap ∧ cap ≤ 9223372036854775807 ∧ (a = none → cap = 0) ∧ ∀ i (h : i < l.length), ∃ b o, a = some ⟨b, o, none⟩ ∧ b < w.heap.size ∧ w.cell? ⟨b, o + i, none⟩ = some (.int .i64 l[i])
set_option maxRecDepth 100000 in
theorem int_cell {H : Type} {enc : TypeId × Value → H} {W : World} {base : Nat} {sp : Nat → Bool} {held : Bool} {n : Nat} {cs : List Value} {y : DataW H × List MemPlace} (h : DataW.trod enc Tryz.prog W base sp held n 2 cs = some y) : ∃ b : Int, cs = [.int .i64 b] := by
  cases n with
  | zero => simp [DataW.trod] at h
  | succ n =>
    have hs : ∃ (k : IntKind) (b : Int), cs = [.int k b] := by
      unfold DataW.trod at h
      rw [und2] at h
      simp only at h
      split at h
      all_goals first
        | exact ⟨_, _, rfl⟩
        | simp_all
    obtain ⟨k, b, rfl⟩ := hs
    simp only [DataW.trod, und2] at h
    by_cases hk : IntKind.i64 = k ∧ (Lit.int k b).wf = true
    · obtain ⟨rfl, hw⟩ := hk
      exact ⟨b, rfl⟩
    · cases k
      all_goals first
        | (simp at h; done)
        | (rw [if_neg (by simpa using hk)] at h; cases h)
def intAt (W : World) (a : Addr) (i : Nat) : Int := match W.cell? (a.add i) with
  | some (.int _ b) => b
  | _ => 0
set_option maxRecDepth 100000 in
theorem open_rowI {H : Type} {enc : TypeId × Value → H} {W : World} {base : Nat} {v : Value} {d : DataW H} {p : List MemPlace} (hval : Value.okWide Tryz.prog W .any base 37 v)
    (h : DataW.Trod enc Tryz.prog W 0 (fun _ => true) true 37 v d p) : ∃ l, RowI W v l ∧ (l = [] ∨ ∃ es rs, d = .slice es rs ∧ es.length = l.length) := by
  obtain ⟨a0, len, cap, rfl⟩ := okWide_slice under37 hval
  obtain ⟨fuel, hf⟩ := h
  rcases DataW.trod_slice under37 hf with ⟨hcs, hx⟩ | ⟨a, len', cap', elems, rest, n, _, hcs, hx, _, hl, hm, hlen, hel, _, _⟩
  · simp [Value.cells] at hcs
    obtain ⟨rfl, rfl, rfl⟩ := hcs
    exact ⟨[], ⟨none, 0, rfl, by simp, by omega, fun _ => rfl, fun i hi => absurd hi (Nat.not_lt_zero _)⟩, Or.inl rfl⟩
  · simp [Value.cells] at hcs
    obtain ⟨rfl, rfl, rfl⟩ := hcs
    simp only [Prod.mk.injEq] at hx
    obtain ⟨rfl, rfl⟩ := hx
    have each : ∀ i, i < len → ∃ b : Int, W.cell? (a.add i) = some (.int .i64 b) := by
      intro i hi
      have h1 := hel i hi
      rw [cellsOf2, Nat.mul_one, List.getElem?_eq_getElem (by omega), Option.bind_eq_some_iff] at h1
      obtain ⟨cs, hc, hy⟩ := h1
      obtain ⟨b, rfl⟩ := int_cell hy
      exact ⟨b, cell_of_cells?_one hc⟩
    refine ⟨(List.range len).map (intAt W a), ⟨some a, cap, by simp, by simpa using hl, by unfold maxLen at hm; omega, fun e => (by cases e), fun i hi => ?_⟩, Or.inr ⟨_, _, rfl, by simp [hlen]⟩⟩
    have hi' : i < len := by simpa using hi
    obtain ⟨b, hb⟩ := each i hi'
    obtain ⟨b0, hb0⟩ := each 0 (by omega)
    have hsp := World.cell?_spot hb0
    obtain ⟨g, off, spot⟩ := a
    have hspot : spot = none := by simpa [Addr.add] using hsp
    subst hspot
    have hgt : (List.map (intAt W ⟨g, off, none⟩) (List.range len))[i] = b := by
      simp [intAt, hb]
    rw [hgt]
    rw [add_plain] at hb
    exact ⟨g, off, rfl, World.block_lt_of_cell? _ _ hb, hb⟩
end Go.Proofs.YtedohdcjichanaaGreatDoor
