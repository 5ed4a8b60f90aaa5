/- FloOrderly (5), by what each of its calls answers. -/
import Derived.Test.YtmlkbimdpdmajaaGreatDoorWords
import Derived.Test.YtmlkbimdpdmajaaGreatDoorTextT
namespace Go.Proofs.YtmlkbimdpdmajaaGreatDoor
open Go.RowKit
attribute [local go_sem] run_inf_less order_nanC
theorem inf_self : (FloatKind.f64.format.order 9218868437227405312 9218868437227405312 != some Ordering.eq) = false := by decide +kernel
set_option maxRecDepth 100000 in
set_option maxHeartbeats 2000000 in
theorem orderly_A (a b c n m : Nat) (y z u v : Int)  (hv : ¬ v < 0) (w : World)
    (hab : ∀ W, Calls Tryz.prog 17 #[.float .f64 a, .float .f64 b] W fun e w' => e = .returned (.int .i64 (1)) ∧ w' = W)
    (hbc : ∀ W, Calls Tryz.prog 17 #[.float .f64 b, .float .f64 c] W fun e w' => e = .returned (.int .i64 y) ∧ w' = W)
    (hac : ∀ W, Calls Tryz.prog 17 #[.float .f64 a, .float .f64 c] W fun e w' => e = .returned (.int .i64 z) ∧ w' = W)
    (hba : ∀ W, Calls Tryz.prog 17 #[.float .f64 b, .float .f64 a] W fun e w' => e = .returned (.int .i64 (-1)) ∧ w' = W)
    (hbn : ∀ W, Calls Tryz.prog 17 #[.float .f64 b, .float .f64 n] W fun e w' => e = .returned (.int .i64 u) ∧ w' = W)
    (hna : ∀ W, Calls Tryz.prog 17 #[.float .f64 n, .float .f64 a] W fun e w' => e = .returned (.int .i64 v) ∧ w' = W)
    (hs : ∀ W, Calls Tryz.prog 8 #[.float .f64 a, .float .f64 b] W fun e w' => e = .returned (.bool false) ∧ w' = W)
    (hn : ∀ W, Calls Tryz.prog 18 #[.float .f64 a, .bool true] W fun e w' => e = .returned (.float .f64 n) ∧ w' = W)
    (hm : ∀ W, Calls Tryz.prog 18 #[.float .f64 n, .bool false] W fun e w' => e = .returned (.float .f64 m) ∧ w' = W)
    (hsm : ∀ W, Calls Tryz.prog 8 #[.float .f64 a, .float .f64 m] W fun e w' => e = .returned (.bool true) ∧ w' = W)
    (hk : Calls Tryz.prog 14 #[] w fun r w' => r = .returned (.bool true) ∧ Below w.heap.size w w') :
    Calls Tryz.prog 5 #[.float .f64 a, .float .f64 b, .float .f64 c] w fun r w' => r = .returned (.bool true) ∧ Below w.heap.size w w' := by
  have HAB := hide hab; have HBC := hide hbc; have HAC := hide hac; have HBA := hide hba; have HBN := hide hbn; have HNA := hide hna
  have HS := hide hs; have HN := hide hn; have HM := hide hm; have HSM := hide hsm; have HK := hide hk

  clear hab hbc hac hba hbn hna hs hn hm hsm hk
  go_enter Tryz.func5, Tryz.ntmps5
  go_wp2_with (first
    | (go_at_call 17; with_reducible refine (unhide HAB _).mono ?_; rintro e wHAB ⟨rfl, hw⟩; have hw2 := hw.symm; subst hw2; clear hw)
    | (go_at_call 17; with_reducible refine (unhide HBC _).mono ?_; rintro e wHBC ⟨rfl, hw⟩; have hw2 := hw.symm; subst hw2; clear hw)
    | (go_at_call 17; with_reducible refine (unhide HAC _).mono ?_; rintro e wHAC ⟨rfl, hw⟩; have hw2 := hw.symm; subst hw2; clear hw)
    | (go_at_call 17; with_reducible refine (unhide HBA _).mono ?_; rintro e wHBA ⟨rfl, hw⟩; have hw2 := hw.symm; subst hw2; clear hw)
    | (go_at_call 17; with_reducible refine (unhide HBN _).mono ?_; rintro e wHBN ⟨rfl, hw⟩; have hw2 := hw.symm; subst hw2; clear hw)
    | (go_at_call 17; with_reducible refine (unhide HNA _).mono ?_; rintro e wHNA ⟨rfl, hw⟩; have hw2 := hw.symm; subst hw2; clear hw)
    | (go_at_call 8; with_reducible refine (unhide HS _).mono ?_; rintro e wHS ⟨rfl, hw⟩; have hw2 := hw.symm; subst hw2; clear hw)
    | (go_at_call 8; with_reducible refine (unhide HSM _).mono ?_; rintro e wHSM ⟨rfl, hw⟩; have hw2 := hw.symm; subst hw2; clear hw)
    | (go_at_call 18; with_reducible refine (unhide HN _).mono ?_; rintro e wHN ⟨rfl, hw⟩; have hw2 := hw.symm; subst hw2; clear hw)
    | (go_at_call 18; with_reducible refine (unhide HM _).mono ?_; rintro e wHM ⟨rfl, hw⟩; have hw2 := hw.symm; subst hw2; clear hw)
    | (go_at_call 14; refine (unhide HK).mono ?_; rintro e wk ⟨rfl, hb⟩; have HB := hide hb; clear hb))
  go_ret
  exact ⟨rfl, unhide HB⟩
set_option maxRecDepth 100000 in
set_option maxHeartbeats 2000000 in
theorem orderly_B1 (a b c n m : Nat) (y z u v : Int) (hh0 : ¬ y ≤ 0) (hv : ¬ v < 0) (w : World)
    (hab : ∀ W, Calls Tryz.prog 17 #[.float .f64 a, .float .f64 b] W fun e w' => e = .returned (.int .i64 (0)) ∧ w' = W)
    (hbc : ∀ W, Calls Tryz.prog 17 #[.float .f64 b, .float .f64 c] W fun e w' => e = .returned (.int .i64 y) ∧ w' = W)
    (hac : ∀ W, Calls Tryz.prog 17 #[.float .f64 a, .float .f64 c] W fun e w' => e = .returned (.int .i64 z) ∧ w' = W)
    (hba : ∀ W, Calls Tryz.prog 17 #[.float .f64 b, .float .f64 a] W fun e w' => e = .returned (.int .i64 (0)) ∧ w' = W)
    (hbn : ∀ W, Calls Tryz.prog 17 #[.float .f64 b, .float .f64 n] W fun e w' => e = .returned (.int .i64 u) ∧ w' = W)
    (hna : ∀ W, Calls Tryz.prog 17 #[.float .f64 n, .float .f64 a] W fun e w' => e = .returned (.int .i64 v) ∧ w' = W)
    (hs : ∀ W, Calls Tryz.prog 8 #[.float .f64 a, .float .f64 b] W fun e w' => e = .returned (.bool true) ∧ w' = W)
    (hn : ∀ W, Calls Tryz.prog 18 #[.float .f64 a, .bool true] W fun e w' => e = .returned (.float .f64 n) ∧ w' = W)
    (hm : ∀ W, Calls Tryz.prog 18 #[.float .f64 n, .bool false] W fun e w' => e = .returned (.float .f64 m) ∧ w' = W)
    (hsm : ∀ W, Calls Tryz.prog 8 #[.float .f64 a, .float .f64 m] W fun e w' => e = .returned (.bool true) ∧ w' = W)
    (hk : Calls Tryz.prog 14 #[] w fun r w' => r = .returned (.bool true) ∧ Below w.heap.size w w') :
    Calls Tryz.prog 5 #[.float .f64 a, .float .f64 b, .float .f64 c] w fun r w' => r = .returned (.bool true) ∧ Below w.heap.size w w' := by
  have HAB := hide hab; have HBC := hide hbc; have HAC := hide hac; have HBA := hide hba; have HBN := hide hbn; have HNA := hide hna
  have HS := hide hs; have HN := hide hn; have HM := hide hm; have HSM := hide hsm; have HK := hide hk

  clear hab hbc hac hba hbn hna hs hn hm hsm hk
  go_enter Tryz.func5, Tryz.ntmps5
  go_wp2_with (first
    | (go_at_call 17; with_reducible refine (unhide HAB _).mono ?_; rintro e wHAB ⟨rfl, hw⟩; have hw2 := hw.symm; subst hw2; clear hw)
    | (go_at_call 17; with_reducible refine (unhide HBC _).mono ?_; rintro e wHBC ⟨rfl, hw⟩; have hw2 := hw.symm; subst hw2; clear hw)
    | (go_at_call 17; with_reducible refine (unhide HAC _).mono ?_; rintro e wHAC ⟨rfl, hw⟩; have hw2 := hw.symm; subst hw2; clear hw)
    | (go_at_call 17; with_reducible refine (unhide HBA _).mono ?_; rintro e wHBA ⟨rfl, hw⟩; have hw2 := hw.symm; subst hw2; clear hw)
    | (go_at_call 17; with_reducible refine (unhide HBN _).mono ?_; rintro e wHBN ⟨rfl, hw⟩; have hw2 := hw.symm; subst hw2; clear hw)
    | (go_at_call 17; with_reducible refine (unhide HNA _).mono ?_; rintro e wHNA ⟨rfl, hw⟩; have hw2 := hw.symm; subst hw2; clear hw)
    | (go_at_call 8; with_reducible refine (unhide HS _).mono ?_; rintro e wHS ⟨rfl, hw⟩; have hw2 := hw.symm; subst hw2; clear hw)
    | (go_at_call 8; with_reducible refine (unhide HSM _).mono ?_; rintro e wHSM ⟨rfl, hw⟩; have hw2 := hw.symm; subst hw2; clear hw)
    | (go_at_call 18; with_reducible refine (unhide HN _).mono ?_; rintro e wHN ⟨rfl, hw⟩; have hw2 := hw.symm; subst hw2; clear hw)
    | (go_at_call 18; with_reducible refine (unhide HM _).mono ?_; rintro e wHM ⟨rfl, hw⟩; have hw2 := hw.symm; subst hw2; clear hw)
    | (go_at_call 14; refine (unhide HK).mono ?_; rintro e wk ⟨rfl, hb⟩; have HB := hide hb; clear hb))
  go_ret
  exact ⟨rfl, unhide HB⟩
set_option maxRecDepth 100000 in
set_option maxHeartbeats 2000000 in
theorem orderly_B2 (a b c n m : Nat) (y z u v : Int) (hh0 : y ≤ 0) (hh1 : ¬ 0 < z) (hv : ¬ v < 0) (w : World)
    (hab : ∀ W, Calls Tryz.prog 17 #[.float .f64 a, .float .f64 b] W fun e w' => e = .returned (.int .i64 (0)) ∧ w' = W)
    (hbc : ∀ W, Calls Tryz.prog 17 #[.float .f64 b, .float .f64 c] W fun e w' => e = .returned (.int .i64 y) ∧ w' = W)
    (hac : ∀ W, Calls Tryz.prog 17 #[.float .f64 a, .float .f64 c] W fun e w' => e = .returned (.int .i64 z) ∧ w' = W)
    (hba : ∀ W, Calls Tryz.prog 17 #[.float .f64 b, .float .f64 a] W fun e w' => e = .returned (.int .i64 (0)) ∧ w' = W)
    (hbn : ∀ W, Calls Tryz.prog 17 #[.float .f64 b, .float .f64 n] W fun e w' => e = .returned (.int .i64 u) ∧ w' = W)
    (hna : ∀ W, Calls Tryz.prog 17 #[.float .f64 n, .float .f64 a] W fun e w' => e = .returned (.int .i64 v) ∧ w' = W)
    (hs : ∀ W, Calls Tryz.prog 8 #[.float .f64 a, .float .f64 b] W fun e w' => e = .returned (.bool true) ∧ w' = W)
    (hn : ∀ W, Calls Tryz.prog 18 #[.float .f64 a, .bool true] W fun e w' => e = .returned (.float .f64 n) ∧ w' = W)
    (hm : ∀ W, Calls Tryz.prog 18 #[.float .f64 n, .bool false] W fun e w' => e = .returned (.float .f64 m) ∧ w' = W)
    (hsm : ∀ W, Calls Tryz.prog 8 #[.float .f64 a, .float .f64 m] W fun e w' => e = .returned (.bool true) ∧ w' = W)
    (hk : Calls Tryz.prog 14 #[] w fun r w' => r = .returned (.bool true) ∧ Below w.heap.size w w') :
    Calls Tryz.prog 5 #[.float .f64 a, .float .f64 b, .float .f64 c] w fun r w' => r = .returned (.bool true) ∧ Below w.heap.size w w' := by
  have HAB := hide hab; have HBC := hide hbc; have HAC := hide hac; have HBA := hide hba; have HBN := hide hbn; have HNA := hide hna
  have HS := hide hs; have HN := hide hn; have HM := hide hm; have HSM := hide hsm; have HK := hide hk

  clear hab hbc hac hba hbn hna hs hn hm hsm hk
  go_enter Tryz.func5, Tryz.ntmps5
  go_wp2_with (first
    | (go_at_call 17; with_reducible refine (unhide HAB _).mono ?_; rintro e wHAB ⟨rfl, hw⟩; have hw2 := hw.symm; subst hw2; clear hw)
    | (go_at_call 17; with_reducible refine (unhide HBC _).mono ?_; rintro e wHBC ⟨rfl, hw⟩; have hw2 := hw.symm; subst hw2; clear hw)
    | (go_at_call 17; with_reducible refine (unhide HAC _).mono ?_; rintro e wHAC ⟨rfl, hw⟩; have hw2 := hw.symm; subst hw2; clear hw)
    | (go_at_call 17; with_reducible refine (unhide HBA _).mono ?_; rintro e wHBA ⟨rfl, hw⟩; have hw2 := hw.symm; subst hw2; clear hw)
    | (go_at_call 17; with_reducible refine (unhide HBN _).mono ?_; rintro e wHBN ⟨rfl, hw⟩; have hw2 := hw.symm; subst hw2; clear hw)
    | (go_at_call 17; with_reducible refine (unhide HNA _).mono ?_; rintro e wHNA ⟨rfl, hw⟩; have hw2 := hw.symm; subst hw2; clear hw)
    | (go_at_call 8; with_reducible refine (unhide HS _).mono ?_; rintro e wHS ⟨rfl, hw⟩; have hw2 := hw.symm; subst hw2; clear hw)
    | (go_at_call 8; with_reducible refine (unhide HSM _).mono ?_; rintro e wHSM ⟨rfl, hw⟩; have hw2 := hw.symm; subst hw2; clear hw)
    | (go_at_call 18; with_reducible refine (unhide HN _).mono ?_; rintro e wHN ⟨rfl, hw⟩; have hw2 := hw.symm; subst hw2; clear hw)
    | (go_at_call 18; with_reducible refine (unhide HM _).mono ?_; rintro e wHM ⟨rfl, hw⟩; have hw2 := hw.symm; subst hw2; clear hw)
    | (go_at_call 14; refine (unhide HK).mono ?_; rintro e wk ⟨rfl, hb⟩; have HB := hide hb; clear hb))
  go_ret
  exact ⟨rfl, unhide HB⟩
set_option maxRecDepth 100000 in
set_option maxHeartbeats 2000000 in
theorem orderly_C1 (a b c n m : Nat) (y z u v : Int) (hh0 : ¬ y ≤ 0) (hh1 : ¬ u < 0) (hv : ¬ v < 0) (w : World)
    (hab : ∀ W, Calls Tryz.prog 17 #[.float .f64 a, .float .f64 b] W fun e w' => e = .returned (.int .i64 (-1)) ∧ w' = W)
    (hbc : ∀ W, Calls Tryz.prog 17 #[.float .f64 b, .float .f64 c] W fun e w' => e = .returned (.int .i64 y) ∧ w' = W)
    (hac : ∀ W, Calls Tryz.prog 17 #[.float .f64 a, .float .f64 c] W fun e w' => e = .returned (.int .i64 z) ∧ w' = W)
    (hba : ∀ W, Calls Tryz.prog 17 #[.float .f64 b, .float .f64 a] W fun e w' => e = .returned (.int .i64 (1)) ∧ w' = W)
    (hbn : ∀ W, Calls Tryz.prog 17 #[.float .f64 b, .float .f64 n] W fun e w' => e = .returned (.int .i64 u) ∧ w' = W)
    (hna : ∀ W, Calls Tryz.prog 17 #[.float .f64 n, .float .f64 a] W fun e w' => e = .returned (.int .i64 v) ∧ w' = W)
    (hs : ∀ W, Calls Tryz.prog 8 #[.float .f64 a, .float .f64 b] W fun e w' => e = .returned (.bool false) ∧ w' = W)
    (hn : ∀ W, Calls Tryz.prog 18 #[.float .f64 a, .bool true] W fun e w' => e = .returned (.float .f64 n) ∧ w' = W)
    (hm : ∀ W, Calls Tryz.prog 18 #[.float .f64 n, .bool false] W fun e w' => e = .returned (.float .f64 m) ∧ w' = W)
    (hsm : ∀ W, Calls Tryz.prog 8 #[.float .f64 a, .float .f64 m] W fun e w' => e = .returned (.bool true) ∧ w' = W)
    (hk : Calls Tryz.prog 14 #[] w fun r w' => r = .returned (.bool true) ∧ Below w.heap.size w w') :
    Calls Tryz.prog 5 #[.float .f64 a, .float .f64 b, .float .f64 c] w fun r w' => r = .returned (.bool true) ∧ Below w.heap.size w w' := by
  have HAB := hide hab; have HBC := hide hbc; have HAC := hide hac; have HBA := hide hba; have HBN := hide hbn; have HNA := hide hna
  have HS := hide hs; have HN := hide hn; have HM := hide hm; have HSM := hide hsm; have HK := hide hk

  clear hab hbc hac hba hbn hna hs hn hm hsm hk
  go_enter Tryz.func5, Tryz.ntmps5
  go_wp2_with (first
    | (go_at_call 17; with_reducible refine (unhide HAB _).mono ?_; rintro e wHAB ⟨rfl, hw⟩; have hw2 := hw.symm; subst hw2; clear hw)
    | (go_at_call 17; with_reducible refine (unhide HBC _).mono ?_; rintro e wHBC ⟨rfl, hw⟩; have hw2 := hw.symm; subst hw2; clear hw)
    | (go_at_call 17; with_reducible refine (unhide HAC _).mono ?_; rintro e wHAC ⟨rfl, hw⟩; have hw2 := hw.symm; subst hw2; clear hw)
    | (go_at_call 17; with_reducible refine (unhide HBA _).mono ?_; rintro e wHBA ⟨rfl, hw⟩; have hw2 := hw.symm; subst hw2; clear hw)
    | (go_at_call 17; with_reducible refine (unhide HBN _).mono ?_; rintro e wHBN ⟨rfl, hw⟩; have hw2 := hw.symm; subst hw2; clear hw)
    | (go_at_call 17; with_reducible refine (unhide HNA _).mono ?_; rintro e wHNA ⟨rfl, hw⟩; have hw2 := hw.symm; subst hw2; clear hw)
    | (go_at_call 8; with_reducible refine (unhide HS _).mono ?_; rintro e wHS ⟨rfl, hw⟩; have hw2 := hw.symm; subst hw2; clear hw)
    | (go_at_call 8; with_reducible refine (unhide HSM _).mono ?_; rintro e wHSM ⟨rfl, hw⟩; have hw2 := hw.symm; subst hw2; clear hw)
    | (go_at_call 18; with_reducible refine (unhide HN _).mono ?_; rintro e wHN ⟨rfl, hw⟩; have hw2 := hw.symm; subst hw2; clear hw)
    | (go_at_call 18; with_reducible refine (unhide HM _).mono ?_; rintro e wHM ⟨rfl, hw⟩; have hw2 := hw.symm; subst hw2; clear hw)
    | (go_at_call 14; refine (unhide HK).mono ?_; rintro e wk ⟨rfl, hb⟩; have HB := hide hb; clear hb))
  go_ret
  exact ⟨rfl, unhide HB⟩
set_option maxRecDepth 100000 in
set_option maxHeartbeats 2000000 in
theorem orderly_C2 (a b c n m : Nat) (y z u v : Int) (hh0 : y ≤ 0) (hh1 : y < 0) (hh2 : ¬ 0 < z) (hh3 : ¬ 0 ≤ z) (hh4 : ¬ u < 0) (hv : ¬ v < 0) (w : World)
    (hab : ∀ W, Calls Tryz.prog 17 #[.float .f64 a, .float .f64 b] W fun e w' => e = .returned (.int .i64 (-1)) ∧ w' = W)
    (hbc : ∀ W, Calls Tryz.prog 17 #[.float .f64 b, .float .f64 c] W fun e w' => e = .returned (.int .i64 y) ∧ w' = W)
    (hac : ∀ W, Calls Tryz.prog 17 #[.float .f64 a, .float .f64 c] W fun e w' => e = .returned (.int .i64 z) ∧ w' = W)
    (hba : ∀ W, Calls Tryz.prog 17 #[.float .f64 b, .float .f64 a] W fun e w' => e = .returned (.int .i64 (1)) ∧ w' = W)
    (hbn : ∀ W, Calls Tryz.prog 17 #[.float .f64 b, .float .f64 n] W fun e w' => e = .returned (.int .i64 u) ∧ w' = W)
    (hna : ∀ W, Calls Tryz.prog 17 #[.float .f64 n, .float .f64 a] W fun e w' => e = .returned (.int .i64 v) ∧ w' = W)
    (hs : ∀ W, Calls Tryz.prog 8 #[.float .f64 a, .float .f64 b] W fun e w' => e = .returned (.bool false) ∧ w' = W)
    (hn : ∀ W, Calls Tryz.prog 18 #[.float .f64 a, .bool true] W fun e w' => e = .returned (.float .f64 n) ∧ w' = W)
    (hm : ∀ W, Calls Tryz.prog 18 #[.float .f64 n, .bool false] W fun e w' => e = .returned (.float .f64 m) ∧ w' = W)
    (hsm : ∀ W, Calls Tryz.prog 8 #[.float .f64 a, .float .f64 m] W fun e w' => e = .returned (.bool true) ∧ w' = W)
    (hk : Calls Tryz.prog 14 #[] w fun r w' => r = .returned (.bool true) ∧ Below w.heap.size w w') :
    Calls Tryz.prog 5 #[.float .f64 a, .float .f64 b, .float .f64 c] w fun r w' => r = .returned (.bool true) ∧ Below w.heap.size w w' := by
  have HAB := hide hab; have HBC := hide hbc; have HAC := hide hac; have HBA := hide hba; have HBN := hide hbn; have HNA := hide hna
  have HS := hide hs; have HN := hide hn; have HM := hide hm; have HSM := hide hsm; have HK := hide hk

  clear hab hbc hac hba hbn hna hs hn hm hsm hk
  go_enter Tryz.func5, Tryz.ntmps5
  go_wp2_with (first
    | (go_at_call 17; with_reducible refine (unhide HAB _).mono ?_; rintro e wHAB ⟨rfl, hw⟩; have hw2 := hw.symm; subst hw2; clear hw)
    | (go_at_call 17; with_reducible refine (unhide HBC _).mono ?_; rintro e wHBC ⟨rfl, hw⟩; have hw2 := hw.symm; subst hw2; clear hw)
    | (go_at_call 17; with_reducible refine (unhide HAC _).mono ?_; rintro e wHAC ⟨rfl, hw⟩; have hw2 := hw.symm; subst hw2; clear hw)
    | (go_at_call 17; with_reducible refine (unhide HBA _).mono ?_; rintro e wHBA ⟨rfl, hw⟩; have hw2 := hw.symm; subst hw2; clear hw)
    | (go_at_call 17; with_reducible refine (unhide HBN _).mono ?_; rintro e wHBN ⟨rfl, hw⟩; have hw2 := hw.symm; subst hw2; clear hw)
    | (go_at_call 17; with_reducible refine (unhide HNA _).mono ?_; rintro e wHNA ⟨rfl, hw⟩; have hw2 := hw.symm; subst hw2; clear hw)
    | (go_at_call 8; with_reducible refine (unhide HS _).mono ?_; rintro e wHS ⟨rfl, hw⟩; have hw2 := hw.symm; subst hw2; clear hw)
    | (go_at_call 8; with_reducible refine (unhide HSM _).mono ?_; rintro e wHSM ⟨rfl, hw⟩; have hw2 := hw.symm; subst hw2; clear hw)
    | (go_at_call 18; with_reducible refine (unhide HN _).mono ?_; rintro e wHN ⟨rfl, hw⟩; have hw2 := hw.symm; subst hw2; clear hw)
    | (go_at_call 18; with_reducible refine (unhide HM _).mono ?_; rintro e wHM ⟨rfl, hw⟩; have hw2 := hw.symm; subst hw2; clear hw)
    | (go_at_call 14; refine (unhide HK).mono ?_; rintro e wk ⟨rfl, hb⟩; have HB := hide hb; clear hb))
  go_ret
  exact ⟨rfl, unhide HB⟩
set_option maxRecDepth 100000 in
set_option maxHeartbeats 2000000 in
theorem orderly_C3 (a b c n m : Nat) (y z u v : Int) (hh0 : y ≤ 0) (hh1 : ¬ y < 0) (hh2 : ¬ 0 < z) (hh3 : ¬ u < 0) (hv : ¬ v < 0) (w : World)
    (hab : ∀ W, Calls Tryz.prog 17 #[.float .f64 a, .float .f64 b] W fun e w' => e = .returned (.int .i64 (-1)) ∧ w' = W)
    (hbc : ∀ W, Calls Tryz.prog 17 #[.float .f64 b, .float .f64 c] W fun e w' => e = .returned (.int .i64 y) ∧ w' = W)
    (hac : ∀ W, Calls Tryz.prog 17 #[.float .f64 a, .float .f64 c] W fun e w' => e = .returned (.int .i64 z) ∧ w' = W)
    (hba : ∀ W, Calls Tryz.prog 17 #[.float .f64 b, .float .f64 a] W fun e w' => e = .returned (.int .i64 (1)) ∧ w' = W)
    (hbn : ∀ W, Calls Tryz.prog 17 #[.float .f64 b, .float .f64 n] W fun e w' => e = .returned (.int .i64 u) ∧ w' = W)
    (hna : ∀ W, Calls Tryz.prog 17 #[.float .f64 n, .float .f64 a] W fun e w' => e = .returned (.int .i64 v) ∧ w' = W)
    (hs : ∀ W, Calls Tryz.prog 8 #[.float .f64 a, .float .f64 b] W fun e w' => e = .returned (.bool false) ∧ w' = W)
    (hn : ∀ W, Calls Tryz.prog 18 #[.float .f64 a, .bool true] W fun e w' => e = .returned (.float .f64 n) ∧ w' = W)
    (hm : ∀ W, Calls Tryz.prog 18 #[.float .f64 n, .bool false] W fun e w' => e = .returned (.float .f64 m) ∧ w' = W)
    (hsm : ∀ W, Calls Tryz.prog 8 #[.float .f64 a, .float .f64 m] W fun e w' => e = .returned (.bool true) ∧ w' = W)
    (hk : Calls Tryz.prog 14 #[] w fun r w' => r = .returned (.bool true) ∧ Below w.heap.size w w') :
    Calls Tryz.prog 5 #[.float .f64 a, .float .f64 b, .float .f64 c] w fun r w' => r = .returned (.bool true) ∧ Below w.heap.size w w' := by
  have HAB := hide hab; have HBC := hide hbc; have HAC := hide hac; have HBA := hide hba; have HBN := hide hbn; have HNA := hide hna
  have HS := hide hs; have HN := hide hn; have HM := hide hm; have HSM := hide hsm; have HK := hide hk

  clear hab hbc hac hba hbn hna hs hn hm hsm hk
  go_enter Tryz.func5, Tryz.ntmps5
  go_wp2_with (first
    | (go_at_call 17; with_reducible refine (unhide HAB _).mono ?_; rintro e wHAB ⟨rfl, hw⟩; have hw2 := hw.symm; subst hw2; clear hw)
    | (go_at_call 17; with_reducible refine (unhide HBC _).mono ?_; rintro e wHBC ⟨rfl, hw⟩; have hw2 := hw.symm; subst hw2; clear hw)
    | (go_at_call 17; with_reducible refine (unhide HAC _).mono ?_; rintro e wHAC ⟨rfl, hw⟩; have hw2 := hw.symm; subst hw2; clear hw)
    | (go_at_call 17; with_reducible refine (unhide HBA _).mono ?_; rintro e wHBA ⟨rfl, hw⟩; have hw2 := hw.symm; subst hw2; clear hw)
    | (go_at_call 17; with_reducible refine (unhide HBN _).mono ?_; rintro e wHBN ⟨rfl, hw⟩; have hw2 := hw.symm; subst hw2; clear hw)
    | (go_at_call 17; with_reducible refine (unhide HNA _).mono ?_; rintro e wHNA ⟨rfl, hw⟩; have hw2 := hw.symm; subst hw2; clear hw)
    | (go_at_call 8; with_reducible refine (unhide HS _).mono ?_; rintro e wHS ⟨rfl, hw⟩; have hw2 := hw.symm; subst hw2; clear hw)
    | (go_at_call 8; with_reducible refine (unhide HSM _).mono ?_; rintro e wHSM ⟨rfl, hw⟩; have hw2 := hw.symm; subst hw2; clear hw)
    | (go_at_call 18; with_reducible refine (unhide HN _).mono ?_; rintro e wHN ⟨rfl, hw⟩; have hw2 := hw.symm; subst hw2; clear hw)
    | (go_at_call 18; with_reducible refine (unhide HM _).mono ?_; rintro e wHM ⟨rfl, hw⟩; have hw2 := hw.symm; subst hw2; clear hw)
    | (go_at_call 14; refine (unhide HK).mono ?_; rintro e wk ⟨rfl, hb⟩; have HB := hide hb; clear hb))
  go_ret
  exact ⟨rfl, unhide HB⟩
set_option maxRecDepth 100000 in
set_option maxHeartbeats 2000000 in
theorem orderly_Ai (b c n m : Nat) (y z u v : Int)  (hv : ¬ v < 0) (w : World)
    (hab : ∀ W, Calls Tryz.prog 17 #[.float .f64 9218868437227405312, .float .f64 b] W fun e w' => e = .returned (.int .i64 (1)) ∧ w' = W)
    (hbc : ∀ W, Calls Tryz.prog 17 #[.float .f64 b, .float .f64 c] W fun e w' => e = .returned (.int .i64 y) ∧ w' = W)
    (hac : ∀ W, Calls Tryz.prog 17 #[.float .f64 9218868437227405312, .float .f64 c] W fun e w' => e = .returned (.int .i64 z) ∧ w' = W)
    (hba : ∀ W, Calls Tryz.prog 17 #[.float .f64 b, .float .f64 9218868437227405312] W fun e w' => e = .returned (.int .i64 (-1)) ∧ w' = W)
    (hbn : ∀ W, Calls Tryz.prog 17 #[.float .f64 b, .float .f64 n] W fun e w' => e = .returned (.int .i64 u) ∧ w' = W)
    (hna : ∀ W, Calls Tryz.prog 17 #[.float .f64 n, .float .f64 9218868437227405312] W fun e w' => e = .returned (.int .i64 v) ∧ w' = W)
    (hs : ∀ W, Calls Tryz.prog 8 #[.float .f64 9218868437227405312, .float .f64 b] W fun e w' => e = .returned (.bool false) ∧ w' = W)
    (hn : ∀ W, Calls Tryz.prog 18 #[.float .f64 9218868437227405312, .bool true] W fun e w' => e = .returned (.float .f64 n) ∧ w' = W)
    (hm : ∀ W, Calls Tryz.prog 18 #[.float .f64 n, .bool false] W fun e w' => e = .returned (.float .f64 m) ∧ w' = W)
    (hsm : ∀ W, Calls Tryz.prog 8 #[.float .f64 9218868437227405312, .float .f64 m] W fun e w' => e = .returned (.bool false) ∧ w' = W)
    (hk : Calls Tryz.prog 14 #[] w.drew fun r w' => r = .returned (.bool true) ∧ Below w.drew.heap.size w.drew w') :
    Calls Tryz.prog 5 #[.float .f64 9218868437227405312, .float .f64 b, .float .f64 c] w fun r w' => r = .returned (.bool true) ∧ Below w.heap.size w w' := by
  have HAB := hide hab; have HBC := hide hbc; have HAC := hide hac; have HBA := hide hba; have HBN := hide hbn; have HNA := hide hna
  have HS := hide hs; have HN := hide hn; have HM := hide hm; have HSM := hide hsm; have HK := hide hk
  have hself := inf_self
  clear hab hbc hac hba hbn hna hs hn hm hsm hk
  go_enter Tryz.func5, Tryz.ntmps5
  go_wp2_with (first
    | (go_at_call 17; with_reducible refine (unhide HAB _).mono ?_; rintro e wHAB ⟨rfl, hw⟩; have hw2 := hw.symm; subst hw2; clear hw)
    | (go_at_call 17; with_reducible refine (unhide HBC _).mono ?_; rintro e wHBC ⟨rfl, hw⟩; have hw2 := hw.symm; subst hw2; clear hw)
    | (go_at_call 17; with_reducible refine (unhide HAC _).mono ?_; rintro e wHAC ⟨rfl, hw⟩; have hw2 := hw.symm; subst hw2; clear hw)
    | (go_at_call 17; with_reducible refine (unhide HBA _).mono ?_; rintro e wHBA ⟨rfl, hw⟩; have hw2 := hw.symm; subst hw2; clear hw)
    | (go_at_call 17; with_reducible refine (unhide HBN _).mono ?_; rintro e wHBN ⟨rfl, hw⟩; have hw2 := hw.symm; subst hw2; clear hw)
    | (go_at_call 17; with_reducible refine (unhide HNA _).mono ?_; rintro e wHNA ⟨rfl, hw⟩; have hw2 := hw.symm; subst hw2; clear hw)
    | (go_at_call 8; with_reducible refine (unhide HS _).mono ?_; rintro e wHS ⟨rfl, hw⟩; have hw2 := hw.symm; subst hw2; clear hw)
    | (go_at_call 8; with_reducible refine (unhide HSM _).mono ?_; rintro e wHSM ⟨rfl, hw⟩; have hw2 := hw.symm; subst hw2; clear hw)
    | (go_at_call 18; with_reducible refine (unhide HN _).mono ?_; rintro e wHN ⟨rfl, hw⟩; have hw2 := hw.symm; subst hw2; clear hw)
    | (go_at_call 18; with_reducible refine (unhide HM _).mono ?_; rintro e wHM ⟨rfl, hw⟩; have hw2 := hw.symm; subst hw2; clear hw)
    | (go_at_call 14; refine (unhide HK).mono ?_; rintro e wk ⟨rfl, hb⟩; have HB := hide hb; clear hb))
  go_ret
  exact ⟨rfl, (Below.refl w.heap.size w).drew.trans (unhide HB)⟩
set_option maxRecDepth 100000 in
set_option maxHeartbeats 2000000 in
theorem orderly_B1i (b c n m : Nat) (y z u v : Int) (hh0 : ¬ y ≤ 0) (hv : ¬ v < 0) (w : World)
    (hab : ∀ W, Calls Tryz.prog 17 #[.float .f64 9218868437227405312, .float .f64 b] W fun e w' => e = .returned (.int .i64 (0)) ∧ w' = W)
    (hbc : ∀ W, Calls Tryz.prog 17 #[.float .f64 b, .float .f64 c] W fun e w' => e = .returned (.int .i64 y) ∧ w' = W)
    (hac : ∀ W, Calls Tryz.prog 17 #[.float .f64 9218868437227405312, .float .f64 c] W fun e w' => e = .returned (.int .i64 z) ∧ w' = W)
    (hba : ∀ W, Calls Tryz.prog 17 #[.float .f64 b, .float .f64 9218868437227405312] W fun e w' => e = .returned (.int .i64 (0)) ∧ w' = W)
    (hbn : ∀ W, Calls Tryz.prog 17 #[.float .f64 b, .float .f64 n] W fun e w' => e = .returned (.int .i64 u) ∧ w' = W)
    (hna : ∀ W, Calls Tryz.prog 17 #[.float .f64 n, .float .f64 9218868437227405312] W fun e w' => e = .returned (.int .i64 v) ∧ w' = W)
    (hs : ∀ W, Calls Tryz.prog 8 #[.float .f64 9218868437227405312, .float .f64 b] W fun e w' => e = .returned (.bool true) ∧ w' = W)
    (hn : ∀ W, Calls Tryz.prog 18 #[.float .f64 9218868437227405312, .bool true] W fun e w' => e = .returned (.float .f64 n) ∧ w' = W)
    (hm : ∀ W, Calls Tryz.prog 18 #[.float .f64 n, .bool false] W fun e w' => e = .returned (.float .f64 m) ∧ w' = W)
    (hsm : ∀ W, Calls Tryz.prog 8 #[.float .f64 9218868437227405312, .float .f64 m] W fun e w' => e = .returned (.bool false) ∧ w' = W)
    (hk : Calls Tryz.prog 14 #[] w.drew fun r w' => r = .returned (.bool true) ∧ Below w.drew.heap.size w.drew w') :
    Calls Tryz.prog 5 #[.float .f64 9218868437227405312, .float .f64 b, .float .f64 c] w fun r w' => r = .returned (.bool true) ∧ Below w.heap.size w w' := by
  have HAB := hide hab; have HBC := hide hbc; have HAC := hide hac; have HBA := hide hba; have HBN := hide hbn; have HNA := hide hna
  have HS := hide hs; have HN := hide hn; have HM := hide hm; have HSM := hide hsm; have HK := hide hk
  have hself := inf_self
  clear hab hbc hac hba hbn hna hs hn hm hsm hk
  go_enter Tryz.func5, Tryz.ntmps5
  go_wp2_with (first
    | (go_at_call 17; with_reducible refine (unhide HAB _).mono ?_; rintro e wHAB ⟨rfl, hw⟩; have hw2 := hw.symm; subst hw2; clear hw)
    | (go_at_call 17; with_reducible refine (unhide HBC _).mono ?_; rintro e wHBC ⟨rfl, hw⟩; have hw2 := hw.symm; subst hw2; clear hw)
    | (go_at_call 17; with_reducible refine (unhide HAC _).mono ?_; rintro e wHAC ⟨rfl, hw⟩; have hw2 := hw.symm; subst hw2; clear hw)
    | (go_at_call 17; with_reducible refine (unhide HBA _).mono ?_; rintro e wHBA ⟨rfl, hw⟩; have hw2 := hw.symm; subst hw2; clear hw)
    | (go_at_call 17; with_reducible refine (unhide HBN _).mono ?_; rintro e wHBN ⟨rfl, hw⟩; have hw2 := hw.symm; subst hw2; clear hw)
    | (go_at_call 17; with_reducible refine (unhide HNA _).mono ?_; rintro e wHNA ⟨rfl, hw⟩; have hw2 := hw.symm; subst hw2; clear hw)
    | (go_at_call 8; with_reducible refine (unhide HS _).mono ?_; rintro e wHS ⟨rfl, hw⟩; have hw2 := hw.symm; subst hw2; clear hw)
    | (go_at_call 8; with_reducible refine (unhide HSM _).mono ?_; rintro e wHSM ⟨rfl, hw⟩; have hw2 := hw.symm; subst hw2; clear hw)
    | (go_at_call 18; with_reducible refine (unhide HN _).mono ?_; rintro e wHN ⟨rfl, hw⟩; have hw2 := hw.symm; subst hw2; clear hw)
    | (go_at_call 18; with_reducible refine (unhide HM _).mono ?_; rintro e wHM ⟨rfl, hw⟩; have hw2 := hw.symm; subst hw2; clear hw)
    | (go_at_call 14; refine (unhide HK).mono ?_; rintro e wk ⟨rfl, hb⟩; have HB := hide hb; clear hb))
  go_ret
  exact ⟨rfl, (Below.refl w.heap.size w).drew.trans (unhide HB)⟩
set_option maxRecDepth 100000 in
set_option maxHeartbeats 2000000 in
theorem orderly_B2i (b c n m : Nat) (y z u v : Int) (hh0 : y ≤ 0) (hh1 : ¬ 0 < z) (hv : ¬ v < 0) (w : World)
    (hab : ∀ W, Calls Tryz.prog 17 #[.float .f64 9218868437227405312, .float .f64 b] W fun e w' => e = .returned (.int .i64 (0)) ∧ w' = W)
    (hbc : ∀ W, Calls Tryz.prog 17 #[.float .f64 b, .float .f64 c] W fun e w' => e = .returned (.int .i64 y) ∧ w' = W)
    (hac : ∀ W, Calls Tryz.prog 17 #[.float .f64 9218868437227405312, .float .f64 c] W fun e w' => e = .returned (.int .i64 z) ∧ w' = W)
    (hba : ∀ W, Calls Tryz.prog 17 #[.float .f64 b, .float .f64 9218868437227405312] W fun e w' => e = .returned (.int .i64 (0)) ∧ w' = W)
    (hbn : ∀ W, Calls Tryz.prog 17 #[.float .f64 b, .float .f64 n] W fun e w' => e = .returned (.int .i64 u) ∧ w' = W)
    (hna : ∀ W, Calls Tryz.prog 17 #[.float .f64 n, .float .f64 9218868437227405312] W fun e w' => e = .returned (.int .i64 v) ∧ w' = W)
    (hs : ∀ W, Calls Tryz.prog 8 #[.float .f64 9218868437227405312, .float .f64 b] W fun e w' => e = .returned (.bool true) ∧ w' = W)
    (hn : ∀ W, Calls Tryz.prog 18 #[.float .f64 9218868437227405312, .bool true] W fun e w' => e = .returned (.float .f64 n) ∧ w' = W)
    (hm : ∀ W, Calls Tryz.prog 18 #[.float .f64 n, .bool false] W fun e w' => e = .returned (.float .f64 m) ∧ w' = W)
    (hsm : ∀ W, Calls Tryz.prog 8 #[.float .f64 9218868437227405312, .float .f64 m] W fun e w' => e = .returned (.bool false) ∧ w' = W)
    (hk : Calls Tryz.prog 14 #[] w.drew fun r w' => r = .returned (.bool true) ∧ Below w.drew.heap.size w.drew w') :
    Calls Tryz.prog 5 #[.float .f64 9218868437227405312, .float .f64 b, .float .f64 c] w fun r w' => r = .returned (.bool true) ∧ Below w.heap.size w w' := by
  have HAB := hide hab; have HBC := hide hbc; have HAC := hide hac; have HBA := hide hba; have HBN := hide hbn; have HNA := hide hna
  have HS := hide hs; have HN := hide hn; have HM := hide hm; have HSM := hide hsm; have HK := hide hk
  have hself := inf_self
  clear hab hbc hac hba hbn hna hs hn hm hsm hk
  go_enter Tryz.func5, Tryz.ntmps5
  go_wp2_with (first
    | (go_at_call 17; with_reducible refine (unhide HAB _).mono ?_; rintro e wHAB ⟨rfl, hw⟩; have hw2 := hw.symm; subst hw2; clear hw)
    | (go_at_call 17; with_reducible refine (unhide HBC _).mono ?_; rintro e wHBC ⟨rfl, hw⟩; have hw2 := hw.symm; subst hw2; clear hw)
    | (go_at_call 17; with_reducible refine (unhide HAC _).mono ?_; rintro e wHAC ⟨rfl, hw⟩; have hw2 := hw.symm; subst hw2; clear hw)
    | (go_at_call 17; with_reducible refine (unhide HBA _).mono ?_; rintro e wHBA ⟨rfl, hw⟩; have hw2 := hw.symm; subst hw2; clear hw)
    | (go_at_call 17; with_reducible refine (unhide HBN _).mono ?_; rintro e wHBN ⟨rfl, hw⟩; have hw2 := hw.symm; subst hw2; clear hw)
    | (go_at_call 17; with_reducible refine (unhide HNA _).mono ?_; rintro e wHNA ⟨rfl, hw⟩; have hw2 := hw.symm; subst hw2; clear hw)
    | (go_at_call 8; with_reducible refine (unhide HS _).mono ?_; rintro e wHS ⟨rfl, hw⟩; have hw2 := hw.symm; subst hw2; clear hw)
    | (go_at_call 8; with_reducible refine (unhide HSM _).mono ?_; rintro e wHSM ⟨rfl, hw⟩; have hw2 := hw.symm; subst hw2; clear hw)
    | (go_at_call 18; with_reducible refine (unhide HN _).mono ?_; rintro e wHN ⟨rfl, hw⟩; have hw2 := hw.symm; subst hw2; clear hw)
    | (go_at_call 18; with_reducible refine (unhide HM _).mono ?_; rintro e wHM ⟨rfl, hw⟩; have hw2 := hw.symm; subst hw2; clear hw)
    | (go_at_call 14; refine (unhide HK).mono ?_; rintro e wk ⟨rfl, hb⟩; have HB := hide hb; clear hb))
  go_ret
  exact ⟨rfl, (Below.refl w.heap.size w).drew.trans (unhide HB)⟩
set_option maxRecDepth 100000 in
set_option maxHeartbeats 2000000 in
theorem orderly_C1i (b c n m : Nat) (y z u v : Int) (hh0 : ¬ y ≤ 0) (hh1 : ¬ u < 0) (hv : ¬ v < 0) (w : World)
    (hab : ∀ W, Calls Tryz.prog 17 #[.float .f64 9218868437227405312, .float .f64 b] W fun e w' => e = .returned (.int .i64 (-1)) ∧ w' = W)
    (hbc : ∀ W, Calls Tryz.prog 17 #[.float .f64 b, .float .f64 c] W fun e w' => e = .returned (.int .i64 y) ∧ w' = W)
    (hac : ∀ W, Calls Tryz.prog 17 #[.float .f64 9218868437227405312, .float .f64 c] W fun e w' => e = .returned (.int .i64 z) ∧ w' = W)
    (hba : ∀ W, Calls Tryz.prog 17 #[.float .f64 b, .float .f64 9218868437227405312] W fun e w' => e = .returned (.int .i64 (1)) ∧ w' = W)
    (hbn : ∀ W, Calls Tryz.prog 17 #[.float .f64 b, .float .f64 n] W fun e w' => e = .returned (.int .i64 u) ∧ w' = W)
    (hna : ∀ W, Calls Tryz.prog 17 #[.float .f64 n, .float .f64 9218868437227405312] W fun e w' => e = .returned (.int .i64 v) ∧ w' = W)
    (hs : ∀ W, Calls Tryz.prog 8 #[.float .f64 9218868437227405312, .float .f64 b] W fun e w' => e = .returned (.bool false) ∧ w' = W)
    (hn : ∀ W, Calls Tryz.prog 18 #[.float .f64 9218868437227405312, .bool true] W fun e w' => e = .returned (.float .f64 n) ∧ w' = W)
    (hm : ∀ W, Calls Tryz.prog 18 #[.float .f64 n, .bool false] W fun e w' => e = .returned (.float .f64 m) ∧ w' = W)
    (hsm : ∀ W, Calls Tryz.prog 8 #[.float .f64 9218868437227405312, .float .f64 m] W fun e w' => e = .returned (.bool false) ∧ w' = W)
    (hk : Calls Tryz.prog 14 #[] w.drew fun r w' => r = .returned (.bool true) ∧ Below w.drew.heap.size w.drew w') :
    Calls Tryz.prog 5 #[.float .f64 9218868437227405312, .float .f64 b, .float .f64 c] w fun r w' => r = .returned (.bool true) ∧ Below w.heap.size w w' := by
  have HAB := hide hab; have HBC := hide hbc; have HAC := hide hac; have HBA := hide hba; have HBN := hide hbn; have HNA := hide hna
  have HS := hide hs; have HN := hide hn; have HM := hide hm; have HSM := hide hsm; have HK := hide hk
  have hself := inf_self
  clear hab hbc hac hba hbn hna hs hn hm hsm hk
  go_enter Tryz.func5, Tryz.ntmps5
  go_wp2_with (first
    | (go_at_call 17; with_reducible refine (unhide HAB _).mono ?_; rintro e wHAB ⟨rfl, hw⟩; have hw2 := hw.symm; subst hw2; clear hw)
    | (go_at_call 17; with_reducible refine (unhide HBC _).mono ?_; rintro e wHBC ⟨rfl, hw⟩; have hw2 := hw.symm; subst hw2; clear hw)
    | (go_at_call 17; with_reducible refine (unhide HAC _).mono ?_; rintro e wHAC ⟨rfl, hw⟩; have hw2 := hw.symm; subst hw2; clear hw)
    | (go_at_call 17; with_reducible refine (unhide HBA _).mono ?_; rintro e wHBA ⟨rfl, hw⟩; have hw2 := hw.symm; subst hw2; clear hw)
    | (go_at_call 17; with_reducible refine (unhide HBN _).mono ?_; rintro e wHBN ⟨rfl, hw⟩; have hw2 := hw.symm; subst hw2; clear hw)
    | (go_at_call 17; with_reducible refine (unhide HNA _).mono ?_; rintro e wHNA ⟨rfl, hw⟩; have hw2 := hw.symm; subst hw2; clear hw)
    | (go_at_call 8; with_reducible refine (unhide HS _).mono ?_; rintro e wHS ⟨rfl, hw⟩; have hw2 := hw.symm; subst hw2; clear hw)
    | (go_at_call 8; with_reducible refine (unhide HSM _).mono ?_; rintro e wHSM ⟨rfl, hw⟩; have hw2 := hw.symm; subst hw2; clear hw)
    | (go_at_call 18; with_reducible refine (unhide HN _).mono ?_; rintro e wHN ⟨rfl, hw⟩; have hw2 := hw.symm; subst hw2; clear hw)
    | (go_at_call 18; with_reducible refine (unhide HM _).mono ?_; rintro e wHM ⟨rfl, hw⟩; have hw2 := hw.symm; subst hw2; clear hw)
    | (go_at_call 14; refine (unhide HK).mono ?_; rintro e wk ⟨rfl, hb⟩; have HB := hide hb; clear hb))
  go_ret
  exact ⟨rfl, (Below.refl w.heap.size w).drew.trans (unhide HB)⟩
set_option maxRecDepth 100000 in
set_option maxHeartbeats 2000000 in
theorem orderly_C2i (b c n m : Nat) (y z u v : Int) (hh0 : y ≤ 0) (hh1 : y < 0) (hh2 : ¬ 0 < z) (hh3 : ¬ 0 ≤ z) (hh4 : ¬ u < 0) (hv : ¬ v < 0) (w : World)
    (hab : ∀ W, Calls Tryz.prog 17 #[.float .f64 9218868437227405312, .float .f64 b] W fun e w' => e = .returned (.int .i64 (-1)) ∧ w' = W)
    (hbc : ∀ W, Calls Tryz.prog 17 #[.float .f64 b, .float .f64 c] W fun e w' => e = .returned (.int .i64 y) ∧ w' = W)
    (hac : ∀ W, Calls Tryz.prog 17 #[.float .f64 9218868437227405312, .float .f64 c] W fun e w' => e = .returned (.int .i64 z) ∧ w' = W)
    (hba : ∀ W, Calls Tryz.prog 17 #[.float .f64 b, .float .f64 9218868437227405312] W fun e w' => e = .returned (.int .i64 (1)) ∧ w' = W)
    (hbn : ∀ W, Calls Tryz.prog 17 #[.float .f64 b, .float .f64 n] W fun e w' => e = .returned (.int .i64 u) ∧ w' = W)
    (hna : ∀ W, Calls Tryz.prog 17 #[.float .f64 n, .float .f64 9218868437227405312] W fun e w' => e = .returned (.int .i64 v) ∧ w' = W)
    (hs : ∀ W, Calls Tryz.prog 8 #[.float .f64 9218868437227405312, .float .f64 b] W fun e w' => e = .returned (.bool false) ∧ w' = W)
    (hn : ∀ W, Calls Tryz.prog 18 #[.float .f64 9218868437227405312, .bool true] W fun e w' => e = .returned (.float .f64 n) ∧ w' = W)
    (hm : ∀ W, Calls Tryz.prog 18 #[.float .f64 n, .bool false] W fun e w' => e = .returned (.float .f64 m) ∧ w' = W)
    (hsm : ∀ W, Calls Tryz.prog 8 #[.float .f64 9218868437227405312, .float .f64 m] W fun e w' => e = .returned (.bool false) ∧ w' = W)
    (hk : Calls Tryz.prog 14 #[] w.drew fun r w' => r = .returned (.bool true) ∧ Below w.drew.heap.size w.drew w') :
    Calls Tryz.prog 5 #[.float .f64 9218868437227405312, .float .f64 b, .float .f64 c] w fun r w' => r = .returned (.bool true) ∧ Below w.heap.size w w' := by
  have HAB := hide hab; have HBC := hide hbc; have HAC := hide hac; have HBA := hide hba; have HBN := hide hbn; have HNA := hide hna
  have HS := hide hs; have HN := hide hn; have HM := hide hm; have HSM := hide hsm; have HK := hide hk
  have hself := inf_self
  clear hab hbc hac hba hbn hna hs hn hm hsm hk
  go_enter Tryz.func5, Tryz.ntmps5
  go_wp2_with (first
    | (go_at_call 17; with_reducible refine (unhide HAB _).mono ?_; rintro e wHAB ⟨rfl, hw⟩; have hw2 := hw.symm; subst hw2; clear hw)
    | (go_at_call 17; with_reducible refine (unhide HBC _).mono ?_; rintro e wHBC ⟨rfl, hw⟩; have hw2 := hw.symm; subst hw2; clear hw)
    | (go_at_call 17; with_reducible refine (unhide HAC _).mono ?_; rintro e wHAC ⟨rfl, hw⟩; have hw2 := hw.symm; subst hw2; clear hw)
    | (go_at_call 17; with_reducible refine (unhide HBA _).mono ?_; rintro e wHBA ⟨rfl, hw⟩; have hw2 := hw.symm; subst hw2; clear hw)
    | (go_at_call 17; with_reducible refine (unhide HBN _).mono ?_; rintro e wHBN ⟨rfl, hw⟩; have hw2 := hw.symm; subst hw2; clear hw)
    | (go_at_call 17; with_reducible refine (unhide HNA _).mono ?_; rintro e wHNA ⟨rfl, hw⟩; have hw2 := hw.symm; subst hw2; clear hw)
    | (go_at_call 8; with_reducible refine (unhide HS _).mono ?_; rintro e wHS ⟨rfl, hw⟩; have hw2 := hw.symm; subst hw2; clear hw)
    | (go_at_call 8; with_reducible refine (unhide HSM _).mono ?_; rintro e wHSM ⟨rfl, hw⟩; have hw2 := hw.symm; subst hw2; clear hw)
    | (go_at_call 18; with_reducible refine (unhide HN _).mono ?_; rintro e wHN ⟨rfl, hw⟩; have hw2 := hw.symm; subst hw2; clear hw)
    | (go_at_call 18; with_reducible refine (unhide HM _).mono ?_; rintro e wHM ⟨rfl, hw⟩; have hw2 := hw.symm; subst hw2; clear hw)
    | (go_at_call 14; refine (unhide HK).mono ?_; rintro e wk ⟨rfl, hb⟩; have HB := hide hb; clear hb))
  go_ret
  exact ⟨rfl, (Below.refl w.heap.size w).drew.trans (unhide HB)⟩
set_option maxRecDepth 100000 in
set_option maxHeartbeats 2000000 in
theorem orderly_C3i (b c n m : Nat) (y z u v : Int) (hh0 : y ≤ 0) (hh1 : ¬ y < 0) (hh2 : ¬ 0 < z) (hh3 : ¬ u < 0) (hv : ¬ v < 0) (w : World)
    (hab : ∀ W, Calls Tryz.prog 17 #[.float .f64 9218868437227405312, .float .f64 b] W fun e w' => e = .returned (.int .i64 (-1)) ∧ w' = W)
    (hbc : ∀ W, Calls Tryz.prog 17 #[.float .f64 b, .float .f64 c] W fun e w' => e = .returned (.int .i64 y) ∧ w' = W)
    (hac : ∀ W, Calls Tryz.prog 17 #[.float .f64 9218868437227405312, .float .f64 c] W fun e w' => e = .returned (.int .i64 z) ∧ w' = W)
    (hba : ∀ W, Calls Tryz.prog 17 #[.float .f64 b, .float .f64 9218868437227405312] W fun e w' => e = .returned (.int .i64 (1)) ∧ w' = W)
    (hbn : ∀ W, Calls Tryz.prog 17 #[.float .f64 b, .float .f64 n] W fun e w' => e = .returned (.int .i64 u) ∧ w' = W)
    (hna : ∀ W, Calls Tryz.prog 17 #[.float .f64 n, .float .f64 9218868437227405312] W fun e w' => e = .returned (.int .i64 v) ∧ w' = W)
    (hs : ∀ W, Calls Tryz.prog 8 #[.float .f64 9218868437227405312, .float .f64 b] W fun e w' => e = .returned (.bool false) ∧ w' = W)
    (hn : ∀ W, Calls Tryz.prog 18 #[.float .f64 9218868437227405312, .bool true] W fun e w' => e = .returned (.float .f64 n) ∧ w' = W)
    (hm : ∀ W, Calls Tryz.prog 18 #[.float .f64 n, .bool false] W fun e w' => e = .returned (.float .f64 m) ∧ w' = W)
    (hsm : ∀ W, Calls Tryz.prog 8 #[.float .f64 9218868437227405312, .float .f64 m] W fun e w' => e = .returned (.bool false) ∧ w' = W)
    (hk : Calls Tryz.prog 14 #[] w.drew fun r w' => r = .returned (.bool true) ∧ Below w.drew.heap.size w.drew w') :
    Calls Tryz.prog 5 #[.float .f64 9218868437227405312, .float .f64 b, .float .f64 c] w fun r w' => r = .returned (.bool true) ∧ Below w.heap.size w w' := by
  have HAB := hide hab; have HBC := hide hbc; have HAC := hide hac; have HBA := hide hba; have HBN := hide hbn; have HNA := hide hna
  have HS := hide hs; have HN := hide hn; have HM := hide hm; have HSM := hide hsm; have HK := hide hk
  have hself := inf_self
  clear hab hbc hac hba hbn hna hs hn hm hsm hk
  go_enter Tryz.func5, Tryz.ntmps5
  go_wp2_with (first
    | (go_at_call 17; with_reducible refine (unhide HAB _).mono ?_; rintro e wHAB ⟨rfl, hw⟩; have hw2 := hw.symm; subst hw2; clear hw)
    | (go_at_call 17; with_reducible refine (unhide HBC _).mono ?_; rintro e wHBC ⟨rfl, hw⟩; have hw2 := hw.symm; subst hw2; clear hw)
    | (go_at_call 17; with_reducible refine (unhide HAC _).mono ?_; rintro e wHAC ⟨rfl, hw⟩; have hw2 := hw.symm; subst hw2; clear hw)
    | (go_at_call 17; with_reducible refine (unhide HBA _).mono ?_; rintro e wHBA ⟨rfl, hw⟩; have hw2 := hw.symm; subst hw2; clear hw)
    | (go_at_call 17; with_reducible refine (unhide HBN _).mono ?_; rintro e wHBN ⟨rfl, hw⟩; have hw2 := hw.symm; subst hw2; clear hw)
    | (go_at_call 17; with_reducible refine (unhide HNA _).mono ?_; rintro e wHNA ⟨rfl, hw⟩; have hw2 := hw.symm; subst hw2; clear hw)
    | (go_at_call 8; with_reducible refine (unhide HS _).mono ?_; rintro e wHS ⟨rfl, hw⟩; have hw2 := hw.symm; subst hw2; clear hw)
    | (go_at_call 8; with_reducible refine (unhide HSM _).mono ?_; rintro e wHSM ⟨rfl, hw⟩; have hw2 := hw.symm; subst hw2; clear hw)
    | (go_at_call 18; with_reducible refine (unhide HN _).mono ?_; rintro e wHN ⟨rfl, hw⟩; have hw2 := hw.symm; subst hw2; clear hw)
    | (go_at_call 18; with_reducible refine (unhide HM _).mono ?_; rintro e wHM ⟨rfl, hw⟩; have hw2 := hw.symm; subst hw2; clear hw)
    | (go_at_call 14; refine (unhide HK).mono ?_; rintro e wk ⟨rfl, hb⟩; have HB := hide hb; clear hb))
  go_ret
  exact ⟨rfl, (Below.refl w.heap.size w).drew.trans (unhide HB)⟩
end Go.Proofs.YtmlkbimdpdmajaaGreatDoor
