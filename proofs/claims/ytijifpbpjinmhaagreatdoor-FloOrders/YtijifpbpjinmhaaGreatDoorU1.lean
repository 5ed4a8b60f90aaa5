/- The document's place (62), Order (21), at (64), Next (23), over all floats. -/
import Derived.Test.YtijifpbpjinmhaaGreatDoorWords
set_option maxHeartbeats 1000000
set_option maxRecDepth 100000
namespace Go.Proofs.YtijifpbpjinmhaaGreatDoor
open Go.RowKit
attribute [local go_sem] run_bits run_from
def plI (b : Nat) : Int := if nanB b then 9223372036854775807 else if 9223372036854775808 ≤ b then 9223372036854775807 - (b : Int) else b
theorem and_low63 (b : Nat) (hb : b < 18446744073709551616) : bits BinOp.and IntKind.u64 (b : Int) 9223372036854775807 = ((b % 9223372036854775808 : Nat) : Int) := by
  have h := u64_and_nat b 9223372036854775807 hb (by decide)
  rw [Nat.and_two_pow_sub_one_eq_mod _ 63] at h
  exact h
theorem place_any (b : Nat) (hb : b < 18446744073709551616) (w : World) : Calls Tryz.prog 62 #[.float .f64 b] w fun e w' => e = .returned (.int .i64 (plI b)) ∧ w' = w := by
  have h2 := order_neq b
  unfold plI
  by_cases hn : nanB b = true
  · rw [if_pos hn]
    rw [hn] at h2
    go_enter Tryz.func62, Tryz.ntmps62
    go_wp2
    go_ret
    exact ⟨rfl, rfl⟩
  · have hn' : nanB b = false := by simpa using hn
    rw [if_neg hn]
    rw [hn'] at h2
    have ha := and_low63 b hb
    by_cases hs : 9223372036854775808 ≤ b
    · rw [if_pos hs]
      have hd : ((b : Int) / 9223372036854775808 == 1) = true := by rw [beq_iff_eq]; omega
      have hw : ((b % 9223372036854775808 : Nat) : Int) = (b : Int) - 9223372036854775808 := by omega
      rw [hw] at ha
      have hl : (b : Int) - 9223372036854775808 < 9223372036854775808 := by omega
      have hg : (0 : Int) ≤ (b : Int) - 9223372036854775808 := by omega
      have hr : (-1 : Int) - ((b : Int) - 9223372036854775808) = 9223372036854775807 - (b : Int) := by omega
      have hr1 : (-9223372036854775808 : Int) ≤ 9223372036854775807 - (b : Int) := by omega
      have hr2 : 9223372036854775807 - (b : Int) ≤ 9223372036854775807 := by omega
      go_enter Tryz.func62, Tryz.ntmps62
      go_wp2
      go_ret
      exact ⟨by simp, rfl⟩
    · rw [if_neg hs]
      have hd : ((b : Int) / 9223372036854775808 == 1) = false := by rw [beq_eq_false_iff_ne]; omega
      have hl : (b : Int) < 9223372036854775808 := by omega
      go_enter Tryz.func62, Tryz.ntmps62
      go_wp2
      go_ret
      exact ⟨rfl, rfl⟩
theorem rk_pl (b : Nat) (hb : b < 18446744073709551616) : ((rk b : Nat) : Int) = plI b + 9223372036854775808 := by
  unfold rk plI
  split
  · omega
  · split <;> split <;> omega
def cmpI (x y : Int) : Int := if x < y then -1 else if y < x then 1 else 0
theorem cmp_rk (a b : Nat) (ha : a < 18446744073709551616) (hb : b < 18446744073709551616) : cmpI (plI a) (plI b) = Cub.cmpN (rk a) (rk b) := by
  have h1 := rk_pl a ha; have h2 := rk_pl b hb
  unfold cmpI Cub.cmpN
  split <;> split <;> (try split) <;> (try split) <;> first | rfl | omega
theorem refOrder_any (a b : Nat) (ha : a < 18446744073709551616) (hb : b < 18446744073709551616) (w : World) : Calls Tryz.prog 21 #[.float .f64 a, .float .f64 b] w fun e w' => e = .returned (.int .i64 (Cub.cmpN (rk a) (rk b))) ∧ w' = w := by
  rw [← cmp_rk a b ha hb]
  have HA := hide (fun W => place_any a ha W)
  have HB := hide (fun W => place_any b hb W)
  unfold cmpI
  generalize plI a = x at *
  generalize plI b = y at *
  go_enter Tryz.func21, Tryz.ntmps21
  go_wp2_with (first
    | (go_at_call_of 62 (Value.float FloatKind.f64 a); refine (unhide HA _).mono ?_; rintro e w' ⟨rfl, rfl⟩)
    | (go_at_call 62; refine (unhide HB _).mono ?_; rintro e w' ⟨rfl, rfl⟩))
  all_goals
    go_ret
    first
    | exact ⟨by simp [*], rfl⟩
    | exact ⟨by rw [if_neg (by omega), if_pos (by omega)], rfl⟩
    | exact ⟨by rw [if_neg (by omega), if_neg (by omega)], rfl⟩
def atF (p : Int) : Nat := if p < 0 then (9223372036854775808 + (-1 - p)).toNat else p.toNat
theorem or_top63 (k : Nat) (hk : k < 9223372036854775808) : bits BinOp.or IntKind.u64 9223372036854775808 (k : Int) = ((9223372036854775808 + k : Nat) : Int) := by
  have h := u64_or_nat 9223372036854775808 k (by decide) (by omega)
  have e : 9223372036854775808 ||| k = 9223372036854775808 + k := by
    have := Nat.two_pow_add_eq_or_of_lt (i := 63) hk 1
    simpa using this.symm
  rw [e] at h; exact h
theorem at_any (p : Int) (h1 : -9223372036854775808 ≤ p) (h2 : p ≤ 9223372036854775807) (w : World) : Calls Tryz.prog 64 #[.int .i64 p] w fun e w' => e = .returned (.float .f64 (atF p)) ∧ w' = w := by
  unfold atF
  by_cases hs : p < 0
  · rw [if_pos hs]
    obtain ⟨k, hk⟩ : ∃ k : Nat, -1 - p = (k : Int) := ⟨(-1 - p).toNat, by omega⟩
    have hkl : k < 9223372036854775808 := by omega
    have hkI : (k : Int) < 9223372036854775808 := by omega
    have ho := or_top63 k hkl
    have hp : p = -1 - (k : Int) := by omega
    subst hp
    have e1 : (-1 : Int) - (-1 - (k : Int)) = (k : Int) := by omega
    have e2 : ((9223372036854775808 : Int) + (-1 - (-1 - (k : Int)))).toNat = 9223372036854775808 + k := by omega
    rw [e2]
    have e3 : (-1 : Int) - (k : Int) < 0 := by omega
    clear hk hs
    go_enter Tryz.func64, Tryz.ntmps64
    go_wp2
    go_ret
    exact ⟨by simp, rfl⟩
  · rw [if_neg hs]
    obtain ⟨k, rfl⟩ : ∃ k : Nat, p = (k : Int) := ⟨p.toNat, by omega⟩
    have hkI : (k : Int) < 9223372036854775808 := by omega
    go_enter Tryz.func64, Tryz.ntmps64
    go_wp2
    go_ret
    exact ⟨by simp, rfl⟩
theorem inf_read : Ieee.double.read 9218868437227405312 = .infinity false := by decide +kernel
theorem ninf_read : Ieee.double.read 18442240474082181120 = .infinity true := by decide +kernel
theorem eq_inf (b : Nat) (hb : b < 18446744073709551616) : (FloatKind.f64.format.order b 9218868437227405312 == some Ordering.eq) = decide (b = 9218868437227405312) := by
  show ((Ieee.double.read b).order (Ieee.double.read 9218868437227405312) == some Ordering.eq) = _
  rw [inf_read]
  unfold Ieee.Format.read
  simp only [sign_lt, inf_is, binade_is, least_is]
  by_cases h1 : b % 9223372036854775808 < 4503599627370496
  · rw [if_pos h1]; exact (decide_eq_false (by omega)).symm
  · rw [if_neg h1]
    by_cases h2 : b % 9223372036854775808 < 9218868437227405312
    · rw [if_pos h2]; exact (decide_eq_false (by omega)).symm
    · rw [if_neg h2]
      by_cases h3 : b % 9223372036854775808 = 9218868437227405312
      · rw [if_pos h3]
        by_cases h4 : b / 9223372036854775808 % 2 = 1
        · have e : (b / 9223372036854775808 % 2 == 1) = true := by rw [beq_iff_eq]; exact h4
          rw [e]; exact (decide_eq_false (by omega)).symm
        · have e : (b / 9223372036854775808 % 2 == 1) = false := by rw [beq_eq_false_iff_ne]; exact h4
          rw [e]; exact (decide_eq_true (by omega)).symm
      · rw [if_neg h3]; exact (decide_eq_false (by omega)).symm
theorem eq_ninf (b : Nat) (hb : b < 18446744073709551616) : (FloatKind.f64.format.order b 18442240474082181120 == some Ordering.eq) = decide (b = 18442240474082181120) := by
  show ((Ieee.double.read b).order (Ieee.double.read 18442240474082181120) == some Ordering.eq) = _
  rw [ninf_read]
  unfold Ieee.Format.read
  simp only [sign_lt, inf_is, binade_is, least_is]
  by_cases h1 : b % 9223372036854775808 < 4503599627370496
  · rw [if_pos h1]; exact (decide_eq_false (by omega)).symm
  · rw [if_neg h1]
    by_cases h2 : b % 9223372036854775808 < 9218868437227405312
    · rw [if_pos h2]; exact (decide_eq_false (by omega)).symm
    · rw [if_neg h2]
      by_cases h3 : b % 9223372036854775808 = 9218868437227405312
      · rw [if_pos h3]
        by_cases h4 : b / 9223372036854775808 % 2 = 1
        · have e : (b / 9223372036854775808 % 2 == 1) = true := by rw [beq_iff_eq]; exact h4
          rw [e]; exact (decide_eq_true (by omega)).symm
        · have e : (b / 9223372036854775808 % 2 == 1) = false := by rw [beq_eq_false_iff_ne]; exact h4
          rw [e]; exact (decide_eq_false (by omega)).symm
      · rw [if_neg h3]; exact (decide_eq_false (by omega)).symm
theorem refNext_core (b : Nat) (up n1 n2 n3 : Bool) (p : Int) (w : World) (h1 : (FloatKind.f64.format.order b b != some Ordering.eq) = n1) (h2 : (FloatKind.f64.format.order b 9218868437227405312 == some Ordering.eq) = n2) (h3 : (FloatKind.f64.format.order b 18442240474082181120 == some Ordering.eq) = n3)
    (hp : ∀ W : World, Calls Tryz.prog 62 #[.float .f64 b] W fun e w' => e = .returned (.int .i64 p) ∧ w' = W)
    (hu : n1 = false → up = true → n2 = false → p < 9223372036854775807) (hd : n1 = false → up = false → n3 = false → -9223372036854775808 < p) (hl : -9223372036854775808 ≤ p) (hh : p ≤ 9223372036854775807) :
    Calls Tryz.prog 23 #[.float .f64 b, .bool up] w fun e w' => e = .returned (.float .f64 (if n1 || (n2 && up) || (n3 && !up) then b else if up then atF (p + 1) else atF (p - 1))) ∧ w' = w := by
  have HP := hide hp
  have HA := hide at_any
  clear hp
  have HI := hide inf_pos; have HN := hide inf_neg
  cases n1
  · cases up
    · cases n3
      · have hd' := hd rfl rfl rfl
        go_enter Tryz.func23, Tryz.ntmps23
        go_wp2_with (first
          | (go_at_call_of 50 (Value.int IntKind.i64 1); refine (unhide HI _).mono ?_; rintro e w' ⟨rfl, rfl⟩)
          | (go_at_call 50; refine (unhide HN _).mono ?_; rintro e w' ⟨rfl, rfl⟩)
          | (go_at_call 62; refine (unhide HP _).mono ?_; rintro e w' ⟨rfl, rfl⟩)
          | (go_at_call 64; refine (unhide HA (p - 1) (by omega) (by omega) _).mono ?_; rintro e w' ⟨rfl, rfl⟩))
        all_goals
          go_ret
          exact ⟨by simp, rfl⟩
      · go_enter Tryz.func23, Tryz.ntmps23
        go_wp2_with (first
          | (go_at_call_of 50 (Value.int IntKind.i64 1); refine (unhide HI _).mono ?_; rintro e w' ⟨rfl, rfl⟩)
          | (go_at_call 50; refine (unhide HN _).mono ?_; rintro e w' ⟨rfl, rfl⟩))
        all_goals
          go_ret
          exact ⟨by simp, rfl⟩
    · cases n2
      · have hu' := hu rfl rfl rfl
        go_enter Tryz.func23, Tryz.ntmps23
        go_wp2_with (first
          | (go_at_call_of 50 (Value.int IntKind.i64 1); refine (unhide HI _).mono ?_; rintro e w' ⟨rfl, rfl⟩)
          | (go_at_call 50; refine (unhide HN _).mono ?_; rintro e w' ⟨rfl, rfl⟩)
          | (go_at_call 62; refine (unhide HP _).mono ?_; rintro e w' ⟨rfl, rfl⟩)
          | (go_at_call 64; refine (unhide HA (p + 1) (by omega) (by omega) _).mono ?_; rintro e w' ⟨rfl, rfl⟩))
        all_goals
          go_ret
          exact ⟨by simp, rfl⟩
      · go_enter Tryz.func23, Tryz.ntmps23
        go_wp2_with (first
          | (go_at_call_of 50 (Value.int IntKind.i64 1); refine (unhide HI _).mono ?_; rintro e w' ⟨rfl, rfl⟩)
          | (go_at_call 50; refine (unhide HN _).mono ?_; rintro e w' ⟨rfl, rfl⟩))
        all_goals
          go_ret
          exact ⟨by simp, rfl⟩
  · go_enter Tryz.func23, Tryz.ntmps23
    go_wp2_with fail
    all_goals
      go_ret
      exact ⟨by simp, rfl⟩
theorem pl_bnd (b : Nat) (hb : b < 18446744073709551616) (hn : nanB b = false) : -9218868437227405313 ≤ plI b ∧ plI b ≤ 9218868437227405312 := by
  unfold plI nanB at *
  have h := of_decide_eq_false hn
  rw [hn]
  simp only [Bool.false_eq_true, if_false]
  split <;> omega
theorem pl_all (b : Nat) (hb : b < 18446744073709551616) : -9223372036854775808 ≤ plI b ∧ plI b ≤ 9223372036854775807 := by
  cases hn : nanB b
  · have := pl_bnd b hb hn; omega
  · unfold plI; rw [hn, if_pos rfl]; decide
theorem refNext_any (b : Nat) (up : Bool) (hb : b < 18446744073709551616) (w : World) : Calls Tryz.prog 23 #[.float .f64 b, .bool up] w fun e w' => e = .returned (.float .f64 (nextF b up)) ∧ w' = w := by
  have hr := rk_pl b hb
  have hp := pl_bnd b hb
  have h := refNext_core b up _ _ _ (plI b) w (order_neq b) (eq_inf b hb) (eq_ninf b hb) (fun W => place_any b hb W)
    (fun h _ _ => by have := hp h; omega) (fun h _ _ => by have := hp h; omega) (pl_all b hb).1 (pl_all b hb).2
  have e : nextF b up = if nanB b || (decide (b = 9218868437227405312) && up) || (decide (b = 18442240474082181120) && !up) then b else if up then atF (plI b + 1) else atF (plI b - 1) := by
    unfold nextF
    rw [Bool.and_comm up, Bool.and_comm (!up)]
    cases hn : nanB b
    · have := hp hn
      simp only [Bool.false_or]
      split
      · rfl
      · cases up
        · simp only [Bool.false_eq_true, if_false]; unfold orF atF; split <;> split <;> omega
        · simp only [if_true]; unfold orF atF; split <;> split <;> omega
    · simp only [Bool.true_or, if_true]
  rw [e]; exact h
end Go.Proofs.YtijifpbpjinmhaaGreatDoor
