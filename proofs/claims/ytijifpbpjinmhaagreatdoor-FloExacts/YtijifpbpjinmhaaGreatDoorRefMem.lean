/- Rows of int in memory, for the document's own numbers: limbs of four digits. -/
import Derived.Test.YtijifpbpjinmhaaGreatDoorSt
import Derived.Laws.Externs
import Derived.Laws.BitsAllLaws
import Derived.WalkLawsBesides
import Derived.Test.YtijifpbpjinmhaaGreatDoorTwo
import Derived.Test.YtijifpbpjinmhaaGreatDoorCmp
import Derived.Test.YtijifpbpjinmhaaGreatDoorLimb5
import Derived.Test.YtijifpbpjinmhaaGreatDoorBigText
set_option maxHeartbeats 400000
set_option maxRecDepth 100000
namespace Go.Proofs.YtijifpbpjinmhaaGreatDoor
open Go.RowKit
theorem run_bits (b : Nat) (w : World) : (callFunc 26 #[.float .f64 b]).run Tryz.prog w = .ok (.value (.int .u64 b)) w :=
  (run_callFunc_extern Tryz.func26 (by kernel_rfl) (by kernel_rfl) (by kernel_rfl) (show Extern.find Tryz.f26 = some Extern.MathFloatBits.float64bits by kernel_rfl) _ _).trans rfl
theorem run_from (b : Int) (w : World) : (callFunc 35 #[.int .u64 b]).run Tryz.prog w = .ok (.value (.float .f64 b.toNat)) w :=
  (run_callFunc_extern Tryz.func35 (by kernel_rfl) (by kernel_rfl) (by kernel_rfl) (show Extern.find Tryz.f35 = some Extern.MathFloatBits.float64frombits by kernel_rfl) _ _).trans rfl
/-- No number: by its bits. -/
def nanB (b : Nat) : Bool := decide (9218868437227405312 < b % 9223372036854775808)
theorem sign_lt : Ieee.double.signWeight = 9223372036854775808 := by decide +kernel
theorem inf_is : Ieee.double.infRung = 9218868437227405312 := by decide +kernel
theorem binade_is : Ieee.double.binade = 4503599627370496 := by decide +kernel
theorem least_is : Ieee.double.leastPlace = -1074 := by decide +kernel
theorem order_self (b : Nat) : (FloatKind.f64.format.order b b == some Ordering.eq) = !nanB b := by
  show ((Ieee.double.read b).order (Ieee.double.read b) == some Ordering.eq) = _
  unfold nanB Ieee.Format.read
  simp only [sign_lt, inf_is, binade_is]
  by_cases h1 : b % 9223372036854775808 < 4503599627370496
  · rw [if_pos h1]
    have h : ¬ 9218868437227405312 < b % 9223372036854775808 := by omega
    simp [Ieee.Datum.order, h]
  · rw [if_neg h1]
    by_cases h2 : b % 9223372036854775808 < 9218868437227405312
    · rw [if_pos h2]
      have h : ¬ 9218868437227405312 < b % 9223372036854775808 := by omega
      simp [Ieee.Datum.order, h]
    · rw [if_neg h2]
      by_cases h3 : b % 9223372036854775808 = 9218868437227405312
      · rw [if_pos h3]; simp [Ieee.Datum.order, h3]
      · rw [if_neg h3]
        have h : 9218868437227405312 < b % 9223372036854775808 := by omega
        simp [Ieee.Datum.order, h]
theorem order_neq (b : Nat) : (FloatKind.f64.format.order b b != some Ordering.eq) = nanB b := by unfold bne; rw [order_self]; simp
/-- None is above the greatest finite one but what is infinite. -/
theorem gt_max (b : Nat) (hb : b < 18446744073709551616) : (FloatKind.f64.format.order b 9218868437227405311 == some Ordering.gt) = decide (b = 9218868437227405312) := by
  have hm : Ieee.double.read 9218868437227405311 = .number false 9007199254740991 971 := by decide +kernel
  show ((Ieee.double.read b).order (Ieee.double.read 9218868437227405311) == some Ordering.gt) = _
  rw [hm]
  have hfin : ∀ (s : Bool) (m : Nat) (i : Int), m ≤ 9007199254740991 → i ≤ 971 → ((Ieee.Datum.number s m i).order (.number false 9007199254740991 971) == some Ordering.gt) = false := by
    intro s m i hm hi
    have hmin : min i 971 = i := by omega
    simp only [Ieee.Datum.order, hmin, Int.sub_self, Int.toNat_zero]
    have h1 : Ieee.signed s m 0 ≤ (m : Int) := by unfold Ieee.signed; split <;> simp <;> omega
    have h2 : (m : Int) ≤ Ieee.signed false 9007199254740991 (971 - i).toNat := by
      unfold Ieee.signed
      rw [if_neg (by simp), Nat.shiftLeft_eq]
      have := Nat.le_mul_of_pos_right 9007199254740991 (Nat.two_pow_pos (971 - i).toNat)
      omega
    have h3 : Ieee.signed s m 0 ≤ Ieee.signed false 9007199254740991 (971 - i).toNat := Int.le_trans h1 h2
    generalize Ieee.signed s m 0 = x at *
    generalize Ieee.signed false 9007199254740991 (971 - i).toNat = y at *
    have : compare x y ≠ Ordering.gt := by
      simp only [compare, compareOfLessAndEq]
      split
      · simp
      · split
        · simp
        · omega
    cases h : compare x y <;> simp_all
  unfold Ieee.Format.read
  simp only [sign_lt, inf_is, binade_is, least_is]
  by_cases h1 : b % 9223372036854775808 < 4503599627370496
  · rw [if_pos h1, hfin _ _ _ (by omega) (by omega)]
    exact (decide_eq_false (by omega)).symm
  · rw [if_neg h1]
    by_cases h2 : b % 9223372036854775808 < 9218868437227405312
    · rw [if_pos h2, hfin _ _ _ (by omega) (by omega)]
      exact (decide_eq_false (by omega)).symm
    · rw [if_neg h2]
      by_cases h3 : b % 9223372036854775808 = 9218868437227405312
      · rw [if_pos h3]
        by_cases h4 : b = 9218868437227405312
        · subst h4; decide +kernel
        · have : (b / 9223372036854775808 % 2 == 1) = true := by rw [beq_iff_eq]; omega
          rw [this]
          simp [Ieee.Datum.order, h4]
      · rw [if_neg h3]
        have h4 : b ≠ 9218868437227405312 := by omega
        simp [Ieee.Datum.order, h4]
theorem and_low (b : Nat) : b &&& 9223372036854775807 = b % 9223372036854775808 := Nat.and_two_pow_sub_one_eq_mod b 63
theorem and_top (b : Nat) (hb : b < 18446744073709551616) : b &&& 9223372036854775808 = if b < 9223372036854775808 then 0 else 9223372036854775808 := by
  have e : (9223372036854775808 : Nat) = 2 ^ 63 := rfl
  apply Nat.eq_of_testBit_eq
  intro i
  rw [Nat.testBit_and]
  by_cases hi : 63 = i
  · subst hi
    rw [Nat.testBit_eq_decide_div_mod_eq]
    split
    · have h1 : b / 2 ^ 63 = 0 := by omega
      simp [h1]
    · have h1 : b / 2 ^ 63 = 1 := by omega
      simp [h1]
  · have h0 : (9223372036854775808 : Nat).testBit i = false := by rw [e, Nat.testBit_two_pow]; simpa using hi
    rw [h0, Bool.and_false]
    split
    · simp
    · exact h0.symm
theorem or_top (b : Nat) (hb : b < 9223372036854775808) : b ||| 9223372036854775808 = b + 9223372036854775808 := by
  have := Nat.two_pow_add_eq_or_of_lt (i := 63) (b := b) (by simpa using hb) 1
  rw [Nat.or_comm]
  simp at this
  first | omega | (rw [← this]; omega) | skip
theorem xor_all (b : Nat) (hb : b < 18446744073709551616) : b ^^^ 18446744073709551615 = 18446744073709551615 - b := by
  apply Nat.eq_of_testBit_eq
  intro i
  have e : 18446744073709551615 - b = 2 ^ 64 - (b + 1) := by omega
  rw [e, Nat.testBit_two_pow_sub_succ (by simpa using hb), Nat.testBit_xor]
  have e2 : (18446744073709551615 : Nat) = 2 ^ 64 - 1 := rfl
  rw [e2, Nat.testBit_two_pow_sub_one]
  by_cases hi : i < 64
  · simp [hi]
  · have : b.testBit i = false := Nat.testBit_lt_two_pow (Nat.lt_of_lt_of_le (by simpa using hb) (Nat.pow_le_pow_right (n := 2) (i := 64) (by decide) (by omega)))
    simp [hi, this]
theorem xor_top (b : Nat) (hb : b < 9223372036854775808) : b ^^^ 9223372036854775808 = b + 9223372036854775808 := by
  have h : b &&& 9223372036854775808 = 0 := by rw [and_top b (by omega), if_pos hb]
  have h2 := or_top b hb
  rw [← h2]
  apply Nat.eq_of_testBit_eq
  intro i
  have h3 : (b &&& 9223372036854775808).testBit i = false := by rw [h]; simp
  rw [Nat.testBit_and] at h3
  rw [Nat.testBit_xor, Nat.testBit_or]
  revert h3
  cases b.testBit i <;> cases (9223372036854775808 : Nat).testBit i <;> simp
attribute [local go_sem] run_bits run_from
theorem isNaN_any (b : Nat) (w : World) : Calls Tryz.prog 36 #[.float .f64 b] w fun e w' => e = .returned (.bool (nanB b)) ∧ w' = w := by
  have h2 := order_neq b
  go_enter Tryz.func36, Tryz.ntmps36
  go_wp2
  go_ret
  exact ⟨rfl, rfl⟩
theorem andNot_top (b : Nat) (hb : b < 18446744073709551616) : bits BinOp.andNot IntKind.u64 (b : Int) 9223372036854775808 = ((b % 9223372036854775808 : Nat) : Int) := by
  have := u64_andNot_nat b 9223372036854775808 hb (by decide)
  rw [← and_low]; exact this
theorem andI_top (b : Nat) (hb : b < 18446744073709551616) : bits BinOp.and IntKind.u64 (b : Int) 9223372036854775808 = if b < 9223372036854775808 then 0 else 9223372036854775808 := by
  have := u64_and_nat b 9223372036854775808 hb (by decide)
  rw [and_top b hb] at this
  refine this.trans ?_
  split <;> rfl
theorem orI_top (b : Nat) (hb : b < 9223372036854775808) : bits BinOp.or IntKind.u64 (b : Int) 9223372036854775808 = ((b + 9223372036854775808 : Nat) : Int) := by
  have := u64_or_nat b 9223372036854775808 (by omega) (by decide)
  rw [or_top b hb] at this; exact this
theorem abs_any (b : Nat) (hb : b < 18446744073709551616) (w : World) : Calls Tryz.prog 65 #[.float .f64 b] w fun e w' => e = .returned (.float .f64 (b % 9223372036854775808)) ∧ w' = w := by
  have h := andNot_top b hb
  go_enter Tryz.func65, Tryz.ntmps65
  go_wp2
  go_ret
  exact ⟨rfl, rfl⟩
/-- A number that rises with the order. -/
def rk (b : Nat) : Nat := if nanB b then 18446744073709551615 else if b < 9223372036854775808 then b + 9223372036854775808 else 18446744073709551615 - b
theorem rank_any (b : Nat) (hb : b < 18446744073709551616) (w : World) : Calls Tryz.prog 61 #[.float .f64 b] w fun e w' => e = .returned (.int .u64 (rk b : Nat)) ∧ w' = w := by
  have h := andI_top b hb
  unfold rk
  by_cases hn : nanB b = true
  · rw [if_pos hn]
    go_enter Tryz.func61, Tryz.ntmps61
    go_wp2_with (go_at_call 36; refine (isNaN_any b _).mono ?_; rintro e w' ⟨rfl, rfl⟩)
    go_ret
    exact ⟨rfl, rfl⟩
  · have hn' : nanB b = false := by simpa using hn
    rw [if_neg hn]
    by_cases hs : b < 9223372036854775808
    · rw [if_pos hs] at h ⊢
      have h3 := orI_top b hs
      go_enter Tryz.func61, Tryz.ntmps61
      go_wp2_with (go_at_call 36; refine (isNaN_any b _).mono ?_; rintro e w' ⟨rfl, rfl⟩)
      go_ret
      exact ⟨rfl, rfl⟩
    · rw [if_neg hs] at h ⊢
      have h3 : bits BinOp.xor IntKind.u64 IntKind.u64.max (b : Int) = ((18446744073709551615 - b : Nat) : Int) := by
        have := u64_xor_nat 18446744073709551615 b (by decide) hb
        rw [Nat.xor_comm, xor_all b hb] at this; exact this
      go_enter Tryz.func61, Tryz.ntmps61
      go_wp2_with (go_at_call 36; refine (isNaN_any b _).mono ?_; rintro e w' ⟨rfl, rfl⟩)
      go_ret
      exact ⟨rfl, rfl⟩
theorem rk_lt (b : Nat) : rk b < 18446744073709551616 := by
  unfold rk
  split
  · decide
  · split <;> omega
end Go.Proofs.YtijifpbpjinmhaaGreatDoor
namespace Go.Proofs.YtijifpbpjinmhaaGreatDoor
open Go.RowKit
attribute [local go_sem] run_bits run_from
/-- What cut tells of a float. -/
def CutAns (b m : Nat) (e : Int) : Prop := ∀ w : World, Calls Tryz.prog 66 #[.float .f64 b] w fun r w' => r = .returned (.tuple #[.int .u64 (m : Int), .int .i64 e]) ∧ w' = w
theorem cut_lo : CutAns 4591870180066957721 7205759403792793 (-56) := by
  intro w
  have h1 : bits BinOp.and IntKind.u64 1019 2047 = 1019 := by decide +kernel
  go_enter Tryz.func66, Tryz.ntmps66
  go_wp2
  exact bodyPost_ret (v := .tuple #[.int .u64 (7205759403792793 : Nat), .int .i64 (-56)]) (by simp [results, Tryz.results66, go_sem]) rfl ⟨rfl, rfl⟩
theorem cut_hi : CutAns 4591870180066957722 7205759403792794 (-56) := by
  intro w
  have h1 : bits BinOp.and IntKind.u64 1019 2047 = 1019 := by decide +kernel
  go_enter Tryz.func66, Tryz.ntmps66
  go_wp2
  exact bodyPost_ret (v := .tuple #[.int .u64 (7205759403792794 : Nat), .int .i64 (-56)]) (by simp [results, Tryz.results66, go_sem]) rfl ⟨rfl, rfl⟩
theorem cut_zero : CutAns 0 0 (-1074) := by
  intro w
  have h1 : bits BinOp.and IntKind.u64 0 2047 = 0 := by decide +kernel
  go_enter Tryz.func66, Tryz.ntmps66
  go_wp2
  exact bodyPost_ret (v := .tuple #[.int .u64 (0 : Nat), .int .i64 (-1074)]) (by simp [results, Tryz.results66, go_sem]) rfl ⟨rfl, rfl⟩
end Go.Proofs.YtijifpbpjinmhaaGreatDoor
namespace Go.Proofs.YtijifpbpjinmhaaGreatDoor
open Go.RowKit
theorem run_negF (b : Nat) : Op.unary .neg (.float .f64 b) = (pure (.float .f64 (Op.negFloat .f64 b)) : Sem Value) := rfl
attribute [local go_sem] run_bits run_from run_negF
theorem xorF (b : Nat) : Op.negFloat .f64 b = b ^^^ 9223372036854775808 := rfl
theorem xor_off (b : Nat) (h1 : 9223372036854775808 ≤ b) (hb : b < 18446744073709551616) : b ^^^ 9223372036854775808 = b - 9223372036854775808 := by
  have h := xor_top (b - 9223372036854775808) (by omega)
  have e : b = (b - 9223372036854775808) ^^^ 9223372036854775808 := by rw [h]; omega
  conv => lhs; rw [e]
  rw [Nat.xor_assoc, Nat.xor_self, Nat.xor_zero]
theorem gt_max_neg (b : Nat) (hb : b < 18446744073709551616) : (FloatKind.f64.format.order (Op.negFloat .f64 b) 9218868437227405311 == some Ordering.gt) = decide (b = 18442240474082181120) := by
  rw [xorF]
  rcases Nat.lt_or_ge b 9223372036854775808 with h | h
  · rw [xor_top b h, gt_max _ (by omega)]
    rw [Bool.eq_iff_iff, decide_eq_true_eq, decide_eq_true_eq]; omega
  · rw [xor_off b h hb, gt_max _ (by omega)]
    rw [Bool.eq_iff_iff, decide_eq_true_eq, decide_eq_true_eq]; omega
theorem isInf_posC (b : Nat) (d : Bool) (h : (FloatKind.f64.format.order b 9218868437227405311 == some Ordering.gt) = d) (w : World) : Calls Tryz.prog 37 #[.float .f64 b, .int .i64 1] w fun e w' => e = .returned (.bool d) ∧ w' = w := by
  go_enter Tryz.func37, Tryz.ntmps37
  go_wp2
  exact bodyPost_ret (v := .bool d) (by simp [results, Tryz.results37, go_sem]) rfl ⟨rfl, rfl⟩
theorem isInf_pos (b : Nat) (hb : b < 18446744073709551616) (w : World) : Calls Tryz.prog 37 #[.float .f64 b, .int .i64 1] w fun e w' => e = .returned (.bool (decide (b = 9218868437227405312))) ∧ w' = w := isInf_posC b _ (gt_max b hb) w
theorem isInf_negC (b c : Nat) (d : Bool) (hc : Op.negFloat .f64 b = c) (h : (FloatKind.f64.format.order c 9218868437227405311 == some Ordering.gt) = d) (w : World) : Calls Tryz.prog 37 #[.float .f64 b, .int .i64 (-1)] w fun e w' => e = .returned (.bool d) ∧ w' = w := by
  go_enter Tryz.func37, Tryz.ntmps37
  go_wp2
  exact bodyPost_ret (v := .bool d) (by simp [results, Tryz.results37, go_sem]) rfl ⟨rfl, rfl⟩
theorem isInf_neg (b : Nat) (hb : b < 18446744073709551616) (w : World) : Calls Tryz.prog 37 #[.float .f64 b, .int .i64 (-1)] w fun e w' => e = .returned (.bool (decide (b = 18442240474082181120))) ∧ w' = w := isInf_negC b _ _ rfl (gt_max_neg b hb) w
def orF (n : Nat) : Nat := if n < 9223372036854775808 then 18446744073709551615 - n else n - 9223372036854775808
theorem ofRank_low (n m : Nat) (h : bits BinOp.and IntKind.u64 (n : Int) 9223372036854775808 = 0) (h3 : bits BinOp.xor IntKind.u64 IntKind.u64.max (n : Int) = (m : Int)) (w : World) : Calls Tryz.prog 63 #[.int .u64 (n : Int)] w fun e w' => e = .returned (.float .f64 m) ∧ w' = w := by
  go_enter Tryz.func63, Tryz.ntmps63
  go_wp2
  go_ret
  exact ⟨by simp, rfl⟩
theorem ofRank_high (n m : Nat) (h : bits BinOp.and IntKind.u64 (n : Int) 9223372036854775808 = 9223372036854775808) (h3 : bits BinOp.andNot IntKind.u64 (n : Int) 9223372036854775808 = (m : Int)) (w : World) : Calls Tryz.prog 63 #[.int .u64 (n : Int)] w fun e w' => e = .returned (.float .f64 m) ∧ w' = w := by
  go_enter Tryz.func63, Tryz.ntmps63
  go_wp2
  go_ret
  exact ⟨by simp, rfl⟩
theorem ofRank_any (n : Nat) (hb : n < 18446744073709551616) (w : World) : Calls Tryz.prog 63 #[.int .u64 (n : Int)] w fun e w' => e = .returned (.float .f64 (orF n)) ∧ w' = w := by
  have h := andI_top n hb
  by_cases hs : n < 9223372036854775808
  · rw [if_pos hs] at h
    have e : orF n = 18446744073709551615 - n := if_pos hs
    have h3 := u64_xor_nat 18446744073709551615 n (by decide) hb
    rw [Nat.xor_comm, xor_all n hb] at h3
    rw [e]
    exact ofRank_low n _ h h3 w
  · rw [if_neg hs] at h
    have e : orF n = n - 9223372036854775808 := if_neg hs
    have h3 := andNot_top n hb
    rw [show n % 9223372036854775808 = n - 9223372036854775808 by omega] at h3
    rw [e]
    exact ofRank_high n _ h h3 w
theorem isNaNu_any (a : Int) (w : World) : Calls Tryz.prog 114 #[.int .u64 a] w fun e w' => e = .returned (.bool false) ∧ w' = w := by
  go_enter Tryz.func114, Tryz.ntmps114
  go_wp2
  go_ret
  exact ⟨rfl, rfl⟩
theorem cmpu_any (a b : Nat) (w : World) : Calls Tryz.prog 60 #[.int .u64 (a : Int), .int .u64 (b : Int)] w fun e w' => e = .returned (.int .i64 (Cub.cmpN a b)) ∧ w' = w := by
  unfold Cub.cmpN
  by_cases h : a < b
  · rw [if_pos h]
    have h1 : (a : Int) < (b : Int) := by omega
    go_enter Tryz.func60, Tryz.ntmps60
    go_wp2_with (go_at_call 114; refine (isNaNu_any _ _).mono ?_; rintro e w' ⟨rfl, rfl⟩)
    go_ret
    exact ⟨rfl, rfl⟩
  · rw [if_neg h]
    by_cases h2 : b < a
    · rw [if_pos h2]
      have h1 : ¬ (a : Int) < (b : Int) := by omega
      have h3 : (b : Int) < (a : Int) := by omega
      go_enter Tryz.func60, Tryz.ntmps60
      go_wp2_with (go_at_call 114; refine (isNaNu_any _ _).mono ?_; rintro e w' ⟨rfl, rfl⟩)
      go_ret
      exact ⟨rfl, rfl⟩
    · rw [if_neg h2]
      have h1 : ¬ (a : Int) < (b : Int) := by omega
      have h3 : ¬ (b : Int) < (a : Int) := by omega
      go_enter Tryz.func60, Tryz.ntmps60
      go_wp2_with (go_at_call 114; refine (isNaNu_any _ _).mono ?_; rintro e w' ⟨rfl, rfl⟩)
      go_ret
      exact ⟨rfl, rfl⟩
theorem order_any (a b : Nat) (ha : a < 18446744073709551616) (hb : b < 18446744073709551616) (w : World) : Calls Tryz.prog 20 #[.float .f64 a, .float .f64 b] w fun e w' => e = .returned (.int .i64 (Cub.cmpN (rk a) (rk b))) ∧ w' = w := by
  go_enter Tryz.func20, Tryz.ntmps20
  go_wp2_with (first
    | (go_at_call_of 61 (Value.float FloatKind.f64 a); refine (rank_any a ha _).mono ?_; rintro e w' ⟨rfl, rfl⟩)
    | (go_at_call 61; refine (rank_any b hb _).mono ?_; rintro e w' ⟨rfl, rfl⟩)
    | (go_at_call 60; refine (cmpu_any (rk a) (rk b) _).mono ?_; rintro e w' ⟨rfl, rfl⟩))
  go_ret
  exact ⟨rfl, rfl⟩
/-- The next one, up or down. -/
def nextF (b : Nat) (up : Bool) : Nat := if nanB b || (up && decide (b = 9218868437227405312)) || (!up && decide (b = 18442240474082181120)) then b else if up then orF ((rk b + 1) % 18446744073709551616) else orF ((rk b + 18446744073709551615) % 18446744073709551616)
theorem next_core (b : Nat) (up n1 n2 n3 : Bool) (r r1 r2 o1 o2 : Nat) (w : World) (h1 : ∀ W, Calls Tryz.prog 36 #[.float .f64 b] W fun e w' => e = .returned (.bool n1) ∧ w' = W)
    (h2 : ∀ W, Calls Tryz.prog 37 #[.float .f64 b, .int .i64 1] W fun e w' => e = .returned (.bool n2) ∧ w' = W) (h3 : ∀ W, Calls Tryz.prog 37 #[.float .f64 b, .int .i64 (-1)] W fun e w' => e = .returned (.bool n3) ∧ w' = W)
    (hr : ∀ W, Calls Tryz.prog 61 #[.float .f64 b] W fun e w' => e = .returned (.int .u64 (r : Int)) ∧ w' = W) (e1 : IntKind.u64.wrap ((r : Int) + 1) = (r1 : Int)) (e2 : IntKind.u64.wrap ((r : Int) - 1) = (r2 : Int))
    (ho1 : ∀ W, Calls Tryz.prog 63 #[.int .u64 (r1 : Int)] W fun e w' => e = .returned (.float .f64 o1) ∧ w' = W) (ho2 : ∀ W, Calls Tryz.prog 63 #[.int .u64 (r2 : Int)] W fun e w' => e = .returned (.float .f64 o2) ∧ w' = W) :
    Calls Tryz.prog 22 #[.float .f64 b, .bool up] w fun e w' => e = .returned (.float .f64 (if n1 || (up && n2) || (!up && n3) then b else if up then o1 else o2)) ∧ w' = w := by
  have H1 := hide h1
  have H2 := hide h2
  have H3 := hide h3
  have HR := hide hr
  have HO1 := hide ho1
  have HO2 := hide ho2
  clear h1 h2 h3 hr ho1 ho2
  cases n1
  · cases up
    · cases n3
      · go_enter Tryz.func22, Tryz.ntmps22
        go_wp2_with (first
          | (go_at_call 36; refine (unhide H1 _).mono ?_; rintro e w' ⟨rfl, rfl⟩)
          | (go_at_call 37; refine (unhide H3 _).mono ?_; rintro e w' ⟨rfl, rfl⟩)
          | (go_at_call 61; refine (unhide HR _).mono ?_; rintro e w' ⟨rfl, rfl⟩)
          | (go_at_call 63; refine (unhide HO2 _).mono ?_; rintro e w' ⟨rfl, rfl⟩))
        go_ret
        exact ⟨by simp, rfl⟩
      · go_enter Tryz.func22, Tryz.ntmps22
        go_wp2_with (first
          | (go_at_call 36; refine (unhide H1 _).mono ?_; rintro e w' ⟨rfl, rfl⟩)
          | (go_at_call 37; refine (unhide H3 _).mono ?_; rintro e w' ⟨rfl, rfl⟩))
        go_ret
        exact ⟨by simp, rfl⟩
    · cases n2
      · go_enter Tryz.func22, Tryz.ntmps22
        go_wp2_with (first
          | (go_at_call 36; refine (unhide H1 _).mono ?_; rintro e w' ⟨rfl, rfl⟩)
          | (go_at_call 37; refine (unhide H2 _).mono ?_; rintro e w' ⟨rfl, rfl⟩)
          | (go_at_call 61; refine (unhide HR _).mono ?_; rintro e w' ⟨rfl, rfl⟩)
          | (go_at_call 63; refine (unhide HO1 _).mono ?_; rintro e w' ⟨rfl, rfl⟩))
        go_ret
        exact ⟨by simp, rfl⟩
      · go_enter Tryz.func22, Tryz.ntmps22
        go_wp2_with (first
          | (go_at_call 36; refine (unhide H1 _).mono ?_; rintro e w' ⟨rfl, rfl⟩)
          | (go_at_call 37; refine (unhide H2 _).mono ?_; rintro e w' ⟨rfl, rfl⟩))
        go_ret
        exact ⟨by simp, rfl⟩
  · go_enter Tryz.func22, Tryz.ntmps22
    go_wp2_with (go_at_call 36; refine (unhide H1 _).mono ?_; rintro e w' ⟨rfl, rfl⟩)
    go_ret
    exact ⟨by simp, rfl⟩
theorem next_any (b : Nat) (up : Bool) (hb : b < 18446744073709551616) (w : World) : Calls Tryz.prog 22 #[.float .f64 b, .bool up] w fun e w' => e = .returned (.float .f64 (nextF b up)) ∧ w' = w := by
  have hr := rk_lt b
  exact next_core b up _ _ _ (rk b) ((rk b + 1) % 18446744073709551616) ((rk b + 18446744073709551615) % 18446744073709551616) _ _ w (isNaN_any b) (isInf_pos b hb) (isInf_neg b hb) (rank_any b hb) (by rw [IntKind.wrap_u64]; omega) (by rw [IntKind.wrap_u64]; omega) (fun W => ofRank_any _ (Nat.mod_lt _ (by decide)) W) (fun W => ofRank_any _ (Nat.mod_lt _ (by decide)) W)
end Go.Proofs.YtijifpbpjinmhaaGreatDoor
namespace Go.Proofs.YtijifpbpjinmhaaGreatDoor
open Go.RowKit
attribute [local go_sem] run_bits run_from
/-- What the model may choose for 'no number'. -/
def nanC (t : Nat) : Nat := t % 2 * 2 ^ 63 + 0x7ff0000000000000 + 1 + t / 2 % (2 ^ 52 - 1)
theorem nanC_nan (t : Nat) : nanB (nanC t) = true := by
  have h2 : t / 2 % (2 ^ 52 - 1) < 2 ^ 52 - 1 := Nat.mod_lt _ (by decide)
  unfold nanB nanC
  simp only [decide_eq_true_eq]
  generalize t / 2 % (2 ^ 52 - 1) = k at *
  rcases Nat.mod_two_eq_zero_or_one t with h | h <;> rw [h] <;> omega
/-- No number reads as such. -/
theorem read_nan (b : Nat) (h : nanB b = true) : ∃ s p, Ieee.double.read b = .nan s p := by
  have h' : 9218868437227405312 < b % 9223372036854775808 := by simpa [nanB] using h
  unfold Ieee.Format.read
  simp only [sign_lt, inf_is, binade_is]
  rw [if_neg (by omega), if_neg (by omega), if_neg (by omega)]
  exact ⟨_, _, rfl⟩
theorem order_nan_l (b c : Nat) (h : nanB b = true) : FloatKind.f64.format.order b c = none := by
  show (Ieee.double.read b).order (Ieee.double.read c) = none
  obtain ⟨s, p, e⟩ := read_nan b h
  rw [e]
  rfl
theorem order_nanC (t : Nat) : (FloatKind.f64.format.order (nanC t) 0 != some Ordering.eq) = true := by rw [order_nan_l _ _ (nanC_nan t)]; rfl
end Go.Proofs.YtijifpbpjinmhaaGreatDoor
namespace Go.Proofs.YtijifpbpjinmhaaGreatDoor
open Go.RowKit
attribute [local go_sem] run_bits run_from
def xpB (b : Nat) : Nat := b / 4503599627370496 % 2048
def mtB (b : Nat) : Nat := b % 4503599627370496
def mvB (b : Nat) : Nat := if xpB b = 0 then mtB b else mtB b + 4503599627370496
def evB (b : Nat) : Int := if xpB b = 0 then -1074 else (xpB b : Int) - 1075
def infB (b : Nat) : Bool := decide (b % 9223372036854775808 = 9218868437227405312)
def negB (b : Nat) : Bool := decide (9223372036854775808 < b)
theorem and_2047 (b : Nat) (hb : b < 18446744073709551616) : bits BinOp.and IntKind.u64 ((b : Int) / 4503599627370496) 2047 = ((xpB b : Nat) : Int) := by
  have h := u64_and_nat (b / 4503599627370496) 2047 (by omega) (by decide)
  rw [Nat.and_two_pow_sub_one_eq_mod _ 11] at h
  refine Eq.trans ?_ h
  congr 1
theorem and_mant (b : Nat) (hb : b < 18446744073709551616) : bits BinOp.and IntKind.u64 (b : Int) 4503599627370495 = ((mtB b : Nat) : Int) := by
  have h := u64_and_nat b 4503599627370495 hb (by decide)
  rw [Nat.and_two_pow_sub_one_eq_mod _ 52] at h
  exact h
theorem or_mant (b : Nat) : bits BinOp.or IntKind.u64 ((mtB b : Nat) : Int) 4503599627370496 = ((mtB b + 4503599627370496 : Nat) : Int) := by
  have hm : mtB b < 4503599627370496 := Nat.mod_lt _ (by decide)
  have h := u64_or_nat (mtB b) 4503599627370496 (by omega) (by decide)
  have e : mtB b ||| 4503599627370496 = mtB b + 4503599627370496 := by
    rw [Nat.or_comm]
    have := Nat.two_pow_add_eq_or_of_lt (i := 52) hm 1
    simpa [Nat.add_comm] using this.symm
  rw [e] at h; exact h
theorem cut_any (b : Nat) (hb : b < 18446744073709551616) : CutAns b (mvB b) (evB b) := by
  intro w
  have hx := and_2047 b hb
  have hm : ((b : Int) % 4503599627370496) = ((mtB b : Nat) : Int) := by unfold mtB; omega
  have hx1 : xpB b < 2048 := Nat.mod_lt _ (by decide)
  have hm1 : mtB b < 4503599627370496 := Nat.mod_lt _ (by decide)
  unfold mvB evB
  generalize xpB b = x at *
  generalize mtB b = m at *
  by_cases h0 : x = 0
  · subst h0
    rw [if_pos rfl, if_pos rfl]
    go_enter Tryz.func66, Tryz.ntmps66
    go_wp2
    exact bodyPost_ret (v := .tuple #[.int .u64 (m : Int), .int .i64 (-1074)]) (by simp [results, Tryz.results66, go_sem]; exact hm) rfl ⟨rfl, rfl⟩
  · rw [if_neg h0, if_neg h0]
    have hxI : (x : Int) ≤ 2047 := by omega
    have hx0 : (0 : Int) ≤ (x : Int) := by omega
    have hxn : ((x : Int) == 0) = false := by rw [beq_eq_false_iff_ne]; omega
    have hmI : (m : Int) < 4503599627370496 := by omega
    have hm0 : (0 : Int) ≤ (m : Int) := by omega
    go_enter Tryz.func66, Tryz.ntmps66
    go_wp2
    exact bodyPost_ret (v := .tuple #[.int .u64 ((m + 4503599627370496 : Nat) : Int), .int .i64 ((x : Int) - 1075)]) (by simp [results, Tryz.results66, go_sem]; omega) rfl ⟨rfl, rfl⟩
theorem isInf_0 (b : Nat) (hb : b < 18446744073709551616) (w : World) : Calls Tryz.prog 37 #[.float .f64 b, .int .i64 0] w fun e w' => e = .returned (.bool (infB b)) ∧ w' = w := by
  have h := gt_max (b % 9223372036854775808) (by omega)
  have HA := hide (abs_any b hb w)
  have hd : decide (b % 9223372036854775808 = 9218868437227405312) = infB b := rfl
  rw [hd] at h
  generalize b % 9223372036854775808 = a at *
  generalize infB b = d at *
  clear hd
  go_enter Tryz.func37, Tryz.ntmps37
  go_wp2_with (go_at_call 65; refine (unhide HA).mono ?_; rintro e w1 ⟨rfl, hw⟩; obtain rfl : w = w1 := hw.symm)
  exact bodyPost_ret (v := .bool d) (by simp [results, Tryz.results37, go_sem]) rfl ⟨rfl, rfl⟩
/-- A finite float is a number. -/
theorem fin_read (b : Nat) (h : b % 9223372036854775808 < 9218868437227405312) : ∃ (m : Nat) (i : Int), Ieee.double.read b = .number (b / 9223372036854775808 % 2 == 1) m i ∧ (m = 0 ↔ b % 9223372036854775808 = 0) := by
  unfold Ieee.Format.read
  simp only [sign_lt, inf_is, binade_is, least_is]
  by_cases h1 : b % 9223372036854775808 < 4503599627370496
  · rw [if_pos h1]; exact ⟨_, _, rfl, Iff.rfl⟩
  · rw [if_neg h1, if_pos h]; exact ⟨_, _, rfl, ⟨fun e => by omega, fun e => by omega⟩⟩
theorem sub_fin (b : Nat) (h : b % 9223372036854775808 < 9218868437227405312) : floatBits .sub .f64 b b = some 0 := by
  obtain ⟨m, i, hr, _⟩ := fin_read b h
  show ((Ieee.double.read b).sum (Ieee.double.read b).opposite).map Ieee.double.write = some 0
  rw [hr]
  generalize (b / 9223372036854775808 % 2 == 1) = s
  have h0 : Ieee.signed s m 0 + Ieee.signed (!s) m 0 = 0 := by unfold Ieee.signed; cases s <;> simp <;> omega
  simp only [Ieee.Datum.opposite, Ieee.Datum.sum, Int.min_self, Int.sub_self, Int.toNat_zero, h0]
  cases s <;> rfl
theorem zero_read : Ieee.double.read 0 = .number false 0 (-1074) := by decide +kernel
theorem cmp_lt0 (x : Int) : (some (compare x 0) == some Ordering.lt) = decide (x < 0) := by
  by_cases h : x < 0
  · have : compare x 0 = Ordering.lt := by simp [compare, compareOfLessAndEq, h]
    rw [this]; simp [h]
  · have : compare x 0 ≠ Ordering.lt := by simp only [compare, compareOfLessAndEq]; rw [if_neg h]; split <;> simp
    cases hc : compare x 0 <;> simp_all
theorem lt_zero (b : Nat) (h : b % 9223372036854775808 < 9218868437227405312) (hb : b < 18446744073709551616) : (FloatKind.f64.format.order b 0 == some Ordering.lt) = negB b := by
  obtain ⟨m, i, hr, hm⟩ := fin_read b h
  show ((Ieee.double.read b).order (Ieee.double.read 0) == some Ordering.lt) = _
  rw [hr, zero_read]
  have hn : negB b = decide ((b / 9223372036854775808 % 2 == 1) = true ∧ m ≠ 0) := by
    unfold negB
    rw [decide_eq_decide, beq_iff_eq]
    constructor
    · intro h1; exact ⟨by omega, fun e => by have := hm.1 e; omega⟩
    · rintro ⟨h1, h2⟩
      have : b % 9223372036854775808 ≠ 0 := fun e => h2 (hm.2 e)
      omega
  rw [hn]
  generalize (b / 9223372036854775808 % 2 == 1) = s
  simp only [Ieee.Datum.order]
  have hz : ∀ k, Ieee.signed false 0 k = 0 := fun k => by simp [Ieee.signed]
  rw [hz, cmp_lt0]
  by_cases e : m = 0
  · subst e
    have : ∀ k, Ieee.signed s 0 k = 0 := fun k => by cases s <;> simp [Ieee.signed]
    rw [this]
    cases s <;> simp
  · have hp : ∀ k, 0 < m <<< k := fun k => by rw [Nat.shiftLeft_eq]; exact Nat.mul_pos (by omega) (Nat.two_pow_pos k)
    generalize (i - min i (-1074)).toNat = k
    have hk := hp k
    unfold Ieee.signed
    generalize m <<< k = q at *
    cases s
    · simp
    · simp [e]; omega
/-- The document's parts. -/
theorem refParts_any (b : Nat) (hb : b < 18446744073709551616) (w : World) : Calls Tryz.prog 41 #[.float .f64 b] w fun e w' => e = .returned (.tuple #[.bool (decide (9223372036854775808 ≤ b)), .int .u64 (mvB b : Nat), .int .i64 (evB b)]) ∧ w' = w := by
  have hx := and_2047 b hb
  have hm := and_mant b hb
  have ho := or_mant b
  have hs : ((b : Int) / 9223372036854775808 == 1) = decide (9223372036854775808 ≤ b) := by
    rw [Bool.eq_iff_iff, beq_iff_eq, decide_eq_true_iff]; omega
  have hx1 : xpB b < 2048 := Nat.mod_lt _ (by decide)
  have hm1 : mtB b < 4503599627370496 := Nat.mod_lt _ (by decide)
  unfold mvB evB
  generalize xpB b = x at *
  generalize mtB b = m at *
  by_cases h0 : x = 0
  · subst h0
    rw [if_pos rfl, if_pos rfl]
    go_enter Tryz.func41, Tryz.ntmps41
    go_wp2
    exact bodyPost_ret (v := .tuple #[.bool (decide (9223372036854775808 ≤ b)), .int .u64 (m : Int), .int .i64 (-1074)]) (by simp [results, Tryz.results41, go_sem]) rfl ⟨rfl, rfl⟩
  · rw [if_neg h0, if_neg h0]
    have hxI : (x : Int) ≤ 2047 := by omega
    have hx0 : (0 : Int) ≤ (x : Int) := by omega
    have hxn : ((x : Int) == 0) = false := by rw [beq_eq_false_iff_ne]; omega
    have hmI : (m : Int) < 4503599627370496 := by omega
    have hm0 : (0 : Int) ≤ (m : Int) := by omega
    go_enter Tryz.func41, Tryz.ntmps41
    go_wp2
    exact bodyPost_ret (v := .tuple #[.bool (decide (9223372036854775808 ≤ b)), .int .u64 ((m + 4503599627370496 : Nat) : Int), .int .i64 ((x : Int) - 1075)]) (by simp [results, Tryz.results41, go_sem]) rfl ⟨rfl, rfl⟩
end Go.Proofs.YtijifpbpjinmhaaGreatDoor
namespace Cub
theorem pow4 (m : Nat) : 10 ^ (4 * m) = 10000 ^ m := by rw [Nat.pow_mul]
theorem dval_cut4 (l : List UInt8) (m e f : Nat) (he : e + 4 * m = l.length) (hf : f ≤ e) :
    dval (l.drop f) = dval (l.drop e) + 10000 ^ m * dval ((l.drop f).take (e - f)) := by
  have h1 : l.drop f = (l.drop f).take (e - f) ++ l.drop e := by
    have := List.take_append_drop (e - f) (l.drop f)
    rw [List.drop_drop] at this
    rw [show f + (e - f) = e by omega] at this
    exact this.symm
  rw [← pow4]
  have hl : (l.drop e).length = 4 * m := by rw [List.length_drop]; omega
  rw [h1, dval_append, hl, ← h1, Nat.mul_comm, Nat.add_comm]
theorem seg4_lt {l : List UInt8} (h : digs l) (f k : Nat) (hk : k ≤ 4) : dval ((l.drop f).take k) < 10000 := by
  have h1 := dval_lt (digs_sub h f k)
  have h2 : ((l.drop f).take k).length ≤ 4 := by rw [List.length_take]; omega
  have h3 : 10 ^ ((l.drop f).take k).length ≤ 10 ^ 4 := Nat.pow_le_pow_right (by decide) h2
  omega
theorem cut4_step (l : List UInt8) (L : List Nat) (e f : Nat) (he : e + 4 * L.length = l.length) (hf : f = e - 4) (hd : digs l) (hL : limbs 10000 L)
    (hv : lval 10000 L = dval (l.drop e)) :
    limbs 10000 (L ++ [dval ((l.drop f).take (e - f))]) ∧ lval 10000 (L ++ [dval ((l.drop f).take (e - f))]) = dval (l.drop f) := by
  refine ⟨limbs_append.2 ⟨hL, fun x hx => ?_⟩, ?_⟩
  · rw [List.mem_singleton] at hx; subst hx; exact seg4_lt hd f _ (by omega)
  · rw [lval_snoc, hv, dval_cut4 l L.length e f he (by omega)]
end Cub
namespace Go.Proofs.YtijifpbpjinmhaaGreatDoor
open Go.RowKit
theorem Tryz.info3 : (Tryz.prog.info? 3).map (fun i => (i.zero, i.size, i.bytes)) = some (some (.int .i64 0), 1, 8) := by kernel_rfl
def i64s (l : List Nat) : List Value := l.map fun x : Nat => Value.int .i64 (x : Int)
theorem i64s_length (l : List Nat) : (i64s l).length = l.length := by simp [i64s]
theorem i64s_get (l : List Nat) (i : Nat) (h : i < l.length) : (i64s l)[i]? = some (.int .i64 (l[i] : Int)) := by simp [i64s, h]
/-- The call owns a row of these limbs. -/
def OwnI (w : World) (base : Nat) (v : Value) (l : List Nat) : Prop := w.ownsRow base 3 1 v l.length (i64s l)
/-- What is read of it in every later world. -/
def CellsI (w : World) (a : Option Addr) (l : List Nat) : Prop :=
  ∀ W, Below w.heap.size w W → ∀ i (hi : i < l.length), ∃ b, a = some ⟨b, 0, none⟩ ∧ W.cell? ⟨b, i, none⟩ = some (.int .i64 (l[i] : Int))
theorem OwnI.open {w : World} {base : Nat} {v : Value} {l : List Nat} (h : OwnI w base v l) : ∃ a cap, v = .slice a l.length cap ∧ l.length ≤ cap ∧ cap ≤ 9223372036854775807 ∧ CellsI w a l := by
  have h' : w.ownsRow base 3 1 v l.length (i64s l) := h
  rcases Joins.ownsRow_forms h' with ⟨rfl, h0⟩ | ⟨g, cap, rfl⟩
  · refine ⟨none, 0, by rw [h0], by omega, by omega, fun W hW i hi => by omega⟩
  · obtain ⟨hx, h2⟩ := id h'
    rcases h2 with ⟨e, _⟩ | ⟨g', cap', cur, e, hb, hg, hcap, hmax, hsz, htk⟩
    · cases e
    · simp only [Value.slice.injEq, Option.some.injEq, Addr.mk.injEq] at e
      obtain ⟨⟨rfl, _⟩, _, rfl⟩ := e
      refine ⟨some ⟨g, 0, none⟩, cap, rfl, hcap, hmax, fun W hW i hi => ⟨g, rfl, ?_⟩⟩
      have hlt : g < w.heap.size := (Array.getElem?_eq_some_iff.1 hg).1
      rw [hW.cell (p := ⟨g, i, none⟩) hlt, h'.cellAt i (by omega), i64s_get l i hi]
theorem OwnI.later {w w' : World} {base : Nat} {v : Value} {l : List Nat} (h : OwnI w base v l) (hb : Below w.heap.size w w') : OwnI w' base v l := by
  obtain ⟨hx, h2⟩ := h
  refine ⟨hx, ?_⟩
  rcases h2 with h2 | ⟨g, cap, cur, e, hbs, hg, r⟩
  · exact Or.inl h2
  · exact Or.inr ⟨g, cap, cur, e, hbs, (hb.block g (Array.getElem?_eq_some_iff.1 hg).1).trans hg, r⟩
/-- The first ones. -/
theorem OwnI.take {w : World} {base n cap : Nat} {a : Option Addr} {l : List Nat} (h : OwnI w base (.slice a n cap) l) (k : Nat) (hk : k ≤ n) : OwnI w base (.slice a k cap) (l.take k) := by
  obtain ⟨hx, h2⟩ := h
  rcases h2 with ⟨e, h0⟩ | ⟨g, cap', cur, e, hbs, hg, hcap, hmax, hsz, htk⟩
  · simp only [Value.slice.injEq] at e
    obtain ⟨rfl, rfl, rfl⟩ := e
    have : l = [] := List.length_eq_zero_iff.1 h0
    subst this
    have hk0 : k = 0 := by simpa using hk
    subst hk0
    exact World.ownsRow_nil _ _ _ _
  · simp only [Value.slice.injEq] at e
    obtain ⟨rfl, rfl, rfl⟩ := e
    have hl : (l.take k).length = k := by rw [List.length_take]; omega
    unfold OwnI
    rw [hl]
    refine ⟨by rw [i64s_length, hl]; omega, Or.inr ⟨g, cap, cur, rfl, hbs, hg, by omega, hmax, hsz, ?_⟩⟩
    rw [Nat.mul_one] at htk ⊢
    have e3 : cur.toList.take k = (cur.toList.take l.length).take k := by rw [List.take_take, Nat.min_eq_left hk]
    rw [e3, htk]
    simp [i64s, List.map_take]
/-- A slice's length, for a measure. -/
def lenOf : Value → Nat | .slice _ n _ => n | _ => 0
/-- ref trim. -/
theorem refTrim_any (v : Value) (base : Nat) (l : List Nat) (w : World) (h : OwnI w base v l) :
    Calls Tryz.prog 133 #[v] w fun e w' => ∃ v', e = .returned v' ∧ OwnI w base v' (Cub.trimN l) ∧ w' = w := by
  obtain ⟨a, cap, rfl, hc, hm, hcells⟩ := h.open
  have H := hide h
  have HC := hide hcells
  clear h hcells
  obtain ⟨n, hn⟩ : ∃ n, n = l.length := ⟨_, rfl⟩
  rw [← hn] at H hc ⊢
  have HN := hide hn
  clear hn
  go_enter Tryz.func133, Tryz.ntmps133
  go_wp2
  go_loop [0] (fun t => ∃ k : Nat, k ≤ n ∧ t = .slice a k cap ∧ Hid (Cub.trimN (l.take k) = Cub.trimN l)) (fun t => lenOf t)
  case atStart => exact ⟨n, Nat.le_refl _, rfl, by rw [List.take_of_length_le (by have := unhide HN; omega)]; exact rfl⟩
  case round =>
    obtain ⟨k, hk, rfl, ht⟩ := hrel
    have HT := ht
    clear ht
    by_cases hk0 : k = 0
    · subst hk0
      have E : Hid (Cub.trimN l = l.take 0) := by rw [← unhide HT]; exact rfl
      go_wp2
      go_ret
      exact ⟨_, rfl, by rw [unhide E]; exact (unhide H).take 0 (Nat.zero_le _), rfl⟩
    · obtain ⟨j, rfl⟩ : ∃ j, k = j + 1 := ⟨k - 1, by omega⟩
      have hlt : j < l.length := by have := unhide HN; omega
      obtain ⟨b, rfl, hx⟩ := unhide HC w (Below.refl _ _) j hlt
      by_cases hz : l[j] = 0
      · rw [hz] at hx
        have E : Hid (Cub.trimN (l.take j) = Cub.trimN l) := by
          rw [← unhide HT, List.take_succ_eq_append_getElem hlt, hz, Cub.trimN_snoc_zero]; exact rfl
        clear hz
        go_wp2
        go_round
        case rel => exact ⟨j, by omega, by first | rfl | go_num, E⟩
        case measure => simp [lenOf]
      · have E : Hid (Cub.trimN l = l.take (j + 1)) := by
          rw [← unhide HT, List.take_succ_eq_append_getElem hlt, Cub.trimN_snoc _ _ hz]; exact rfl
        have hz' : ((l[j] : Int) == 0) = false := by rw [beq_eq_false_iff_ne]; omega
        clear hz
        go_wp2
        go_ret
        exact ⟨_, rfl, by rw [unhide E]; exact (unhide H).take (j + 1) hk, rfl⟩
end Go.Proofs.YtijifpbpjinmhaaGreatDoor
