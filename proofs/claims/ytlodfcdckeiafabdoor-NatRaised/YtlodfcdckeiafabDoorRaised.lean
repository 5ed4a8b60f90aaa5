/- The walk of NatRaised: it answers true, whatever it is handed. -/
import Derived.Test.YtlodfcdckeiafabDoorRootOps
import Derived.Test.YtlodfcdckeiafabDoorKnown
import Derived.Test.YtlodfcdckeiafabDoorCount
import Derived.Deep.Cut
namespace Go.Proofs.YtlodfcdckeiafabDoor
open Go.RowKit

theorem val_tb (V : Nat) (h : V < 10 ^ 600) : val (tb V) = V := (tb_right V h).2
theorem powN (V N : Nat) (e : Int) (w : World) (hV : V < 10 ^ 600) (hN : N ≤ 4096) (he : e = (N : Int)) (htab : Tab w) :
    Calls Tryd.prog 14 #[.string (tb V), .int .i64 e] w fun x w' => x = .returned (.tuple #[.string (tb (V ^ N)), .int .i64 (toldErr (V ^ N))]) ∧ Below w.heap.size w w' := by
  subst he
  have h := natPow_any (tb V) (N : Int) w (tb_size V hV) (by omega) (by omega) htab
  unfold powText powErr at h
  simp only [(tb_right V hV).1, if_true] at h
  rw [if_pos ⟨by omega, by omega⟩, if_pos ⟨by omega, by omega⟩, show ((N : Int)).toNat = N from rfl, val_tb V hV] at h
  exact h
theorem rootN (V N : Nat) (e : Int) (w : World) (hV : V < 10 ^ 600) (hN : N ≤ 4096) (hN1 : 1 ≤ N) (he : e = (N : Int)) (htab : Tab w) :
    Calls Tryd.prog 15 #[.string (tb V), .int .i64 e] w fun x w' => x = .returned (.tuple #[.string (tb (Cub.rootOf V N)), .int .i64 0]) ∧ Below w.heap.size w w' := by
  subst he
  have h := natRoot_any (tb V) (N : Int) w (tb_size V hV) (by omega) (by omega) htab
  unfold rootText rootErr at h
  simp only [(tb_right V hV).1, if_true] at h
  rw [if_pos ⟨by omega, by omega⟩, if_pos ⟨by omega, by omega⟩, show ((N : Int)).toNat = N from rfl, val_tb V hV, ← toldText_pos _ (told_root V N 600 hV hN1)] at h
  exact h
theorem pow_no (s : ByteArray) (n : Int) (w : World) (hs : s.size ≤ maxLen) (hn1 : -9223372036854775808 ≤ n) (hn2 : n ≤ 9223372036854775807) (hb : Cub.rightB s.data.toList = false) (htab : Tab w) :
    Calls Tryd.prog 14 #[.string s, .int .i64 n] w fun x w' => x = .returned (.tuple #[.string ⟨#[]⟩, .int .i64 3]) ∧ Below w.heap.size w w' := by
  have h := natPow_any s n w hs hn1 hn2 htab
  unfold powText powErr at h
  simp only [hb, Bool.false_eq_true, if_false] at h
  exact h

set_option maxRecDepth 100000 in
set_option maxHeartbeats 2000000 in
theorem natRaised_no (s : ByteArray) (m n : Int) (w : World) (hs : s.size ≤ maxLen) (hm1 : -9223372036854775808 ≤ m) (hm2 : m ≤ 9223372036854775807) (hn1 : -9223372036854775808 ≤ n) (hn2 : n ≤ 9223372036854775807) (hb : Cub.rightB s.data.toList = false) (htab : Tab w) :
    Calls Tryd.prog 4 #[.string s, .int .i64 m, .int .i64 n] w fun e w' => e = .returned (.bool true) ∧ Below w.heap.size w w' := by
  obtain ⟨M, hM⟩ : ∃ M : Nat, m % 2000 = (M : Int) := ⟨(m % 2000).toNat, by omega⟩
  obtain ⟨C, hC⟩ : ∃ C : Nat, n % 2000 = (C : Int) := ⟨(n % 2000).toNat, by omega⟩
  have hMb : M < 2000 := by omega
  have hCb : C < 2000 := by omega
  have C13m := hide (fun W => count_any m M W hM hm1 hm2)
  have C13n := hide (fun W => count_any n C W hC hn1 hn2)
  have C14 := hide (fun W (e : Int) (h1 : -9223372036854775808 ≤ e) (h2 : e ≤ 9223372036854775807) h => pow_no s e W hs h1 h2 hb h)
  have C7 := hide (fun W => refRight_any s W hs)
  rw [hb] at C7
  have HT := hide htab
  clear hM hC hm1 hm2 hn1 hn2 hs hb htab
  go_enter Tryd.func4, Tryd.ntmps4
  go_upto_region 2 with (go_at_call 13; go_must (refine (unhide C13m _).mono ?_; rintro e w1 ⟨rfl, hw⟩; subst w1))
  go_upto_region 3 with (go_at_call 13; go_must (refine (unhide C13n _).mono ?_; rintro e w1 ⟨rfl, hw⟩; subst w1))
  go_upto_region 4 with (go_at_call 14; go_must (refine (unhide C14 _ _ (by omega) (by omega) (unhide HT)).mono ?_; rintro e w1 ⟨rfl, hb1⟩))
  go_upto_region 5 with (go_at_call 14; go_must (refine (unhide C14 _ _ (by omega) (by omega) ((unhide HT).later hb1)).mono ?_; rintro e w2 ⟨rfl, hc2⟩; have hb2 := hb1.trans (hc2.mono hb1.size); clear hc2))
  go_upto_region 6 with (go_at_call 14; go_must (refine (unhide C14 _ _ (by omega) (by omega) ((unhide HT).later hb2)).mono ?_; rintro e w3 ⟨rfl, hc3⟩; have hb3 := hb2.trans (hc3.mono hb2.size); clear hc3))
  go_wp2_with (first
    | (go_at_call 7; refine (unhide C7 _).mono ?_; rintro e w' ⟨rfl, hw⟩; subst w')
    | (go_at_call 8; refine (known_any _ ((unhide HT).later hb3)).mono ?_; rintro e w9 ⟨rfl, hc9⟩; have hb9 := hb3.trans (hc9.mono hb3.size); clear hc9))
  all_goals go_ret
  all_goals exact ⟨rfl, hb9⟩

theorem mulP (x y z : Nat) (hz : z = x * y) (W : World) (h1 : x < 10 ^ 600) (h2 : y < 10 ^ 600) (h : Tab W) :
    Calls Tryd.prog 12 #[.string (tb x), .string (tb y)] W fun e w' => e = .returned (.string (tb z)) ∧ Below W.heap.size W w' := mulN x y z W h1 h2 hz h
theorem powQ (V N : Nat) (e : Int) (hN : N ≤ 4096) (he : e = (N : Int)) (W : World) (hV : V < 10 ^ 600) (h : Tab W) :
    Calls Tryd.prog 14 #[.string (tb V), .int .i64 e] W fun x w' => x = .returned (.tuple #[.string (tb (V ^ N)), .int .i64 (toldErr (V ^ N))]) ∧ Below W.heap.size W w' := powN V N e W hV hN he h
theorem tb_none (n : Nat) (h : ¬ n < 10 ^ 600) : tb n = ⟨#[]⟩ := by unfold tb; rw [toldText_neg _ h]
theorem tb_one : (⟨#[49]⟩ : ByteArray) = tb 1 := by
  have h : toldText 1 = Lib.decDigits 1 := toldText_pos 1 (one600 600 (by decide))
  unfold tb
  rw [h]
  exact nb_one
theorem one_lt600 : 1 < 10 ^ 600 := one600 600 (by decide)
theorem told_err0 (x : Nat) (h : toldErr x = 0) : x < 10 ^ 600 := by
  apply Decidable.byContradiction
  intro hc
  rw [toldErr_neg x hc] at h
  cases h
theorem told_err_cases (x : Nat) : (x < 10 ^ 600 ∧ toldErr x = 0) ∨ (¬ x < 10 ^ 600 ∧ toldErr x = 7) := by
  by_cases h : x < 10 ^ 600
  · exact Or.inl ⟨h, toldErr_pos x h⟩
  · exact Or.inr ⟨h, toldErr_neg x h⟩

set_option maxRecDepth 100000 in
set_option maxHeartbeats 4000000 in
theorem natRaised_yes (V : Nat) (m n : Int) (w : World) (hV : V < 10 ^ 600) (hm1 : -9223372036854775808 ≤ m) (hm2 : m ≤ 9223372036854775807) (hn1 : -9223372036854775808 ≤ n) (hn2 : n ≤ 9223372036854775807) (htab : Tab w) :
    Calls Tryd.prog 4 #[.string (tb V), .int .i64 m, .int .i64 n] w fun e w' => e = .returned (.bool true) ∧ Below w.heap.size w w' := by
  obtain ⟨M, hM⟩ : ∃ M : Nat, m % 2000 = (M : Int) := ⟨(m % 2000).toNat, by omega⟩
  obtain ⟨C, hC⟩ : ∃ C : Nat, n % 2000 = (C : Int) := ⟨(n % 2000).toNat, by omega⟩
  have hMb : M < 2000 := by omega
  have hCb : C < 2000 := by omega
  have C13m := hide (fun W => count_any m M W hM hm1 hm2)
  have C13n := hide (fun W => count_any n C W hC hn1 hn2)
  have P1 := hide (fun W h => powN V M (M : Int) W hV (by omega) rfl h)
  have P2 := hide (fun W h => powN V (C + 1) (1 + (C : Int)) W hV (by omega) (by omega) h)
  have P3 := hide (fun W h => powN V (M + (C + 1)) ((M : Int) + (1 + (C : Int))) W hV (by omega) (by omega) h)
  have PX := hide (mulP (V ^ M) (V ^ (C + 1)) (V ^ (M + (C + 1))) (Nat.pow_add V M (C + 1)))
  have P4 := hide (fun W h => rootN V (C + 1) (1 + (C : Int)) W hV (by omega) (by omega) (by omega) h)
  obtain ⟨hr1, hr2⟩ := Cub.rootOf_spec V (C + 1) (by omega)
  have hR := told_root V (C + 1) 600 hV (by omega)
  generalize Cub.rootOf V (C + 1) = R at *
  have hRN : R ^ (C + 1) < 10 ^ 600 := Nat.lt_of_le_of_lt hr1 hV
  have P5 := hide (fun W h => by
    have h5 := powN R (C + 1) (1 + (C : Int)) W hR (by omega) (by omega) h
    rw [toldErr_pos _ hRN] at h5
    exact h5)
  have P6 := hide (fun W => cmpTN (R ^ (C + 1)) V _ W hRN hV rfl)
  have hc6 := cmpN_not (R ^ (C + 1)) V hr1
  have P7 := hide (fun W h => by
    have h7 := addN R 1 (R + 1) W hR one_lt600 rfl h
    rw [← tb_one] at h7
    exact h7)
  have P8 := hide (powQ (R + 1) (C + 1) (1 + (C : Int)) (by omega) (by omega))
  have P9 := hide (fun W (h1 : (R + 1) ^ (C + 1) < 10 ^ 600) => by
    have h9 := cmpTN ((R + 1) ^ (C + 1)) V _ W h1 hV rfl
    rw [Cub.cmpN_gt hr2] at h9
    exact h9)
  have HE := hide (tb_empty (R + 1))
  have HF := hide (tb_full (R + 1))
  have HZ := hide (fun (h : ¬ R + 1 < 10 ^ 600) W hh => pow_no (tb (R + 1)) (1 + (C : Int)) W (by
    have e := tb_none (R + 1) h
    rw [e]; exact Nat.zero_le _) (by omega) (by omega) (by
    have e := tb_none (R + 1) h
    rw [e]; rfl) hh)
  have HC1 := hide (told_err_cases (V ^ M))
  have HC2 := hide (told_err_cases (V ^ (C + 1)))
  have HC3 := hide (told_err_cases ((R + 1) ^ (C + 1)))
  have HC4 : Hid (R + 1 < 10 ^ 600 ∨ ¬ R + 1 < 10 ^ 600) := Decidable.em _
  have C7 := hide (fun W => refRight_any (tb V) W (tb_size V hV))
  rw [(tb_right V hV).1] at C7
  have HT := hide htab
  clear hM hC hm1 hm2 hn1 hn2 htab hr1 hr2 hV hR hRN
  generalize toldErr (V ^ M) = E1 at *
  generalize toldErr (V ^ (C + 1)) = E2 at *
  generalize V ^ M = x at *
  generalize V ^ (C + 1) = y at *
  generalize V ^ (M + (C + 1)) = z at *
  generalize Cub.cmpN (R ^ (C + 1)) V = c6 at *
  generalize R ^ (C + 1) = rn at *
  generalize (R + 1) ^ (C + 1) = ro at *
  generalize R + 1 = R1 at *
  go_enter Tryd.func4, Tryd.ntmps4
  go_upto_region 2 with (go_at_call 13; go_must (refine (unhide C13m _).mono ?_; rintro e w1 ⟨rfl, hw⟩; subst w1))
  go_upto_region 3 with (go_at_call 13; go_must (refine (unhide C13n _).mono ?_; rintro e w1 ⟨rfl, hw⟩; subst w1))
  go_upto_region 4 with (go_at_call 14; go_must (refine (unhide P1 _ (unhide HT)).mono ?_; rintro e w1 ⟨rfl, hb1⟩))
  go_upto_region 5 with (go_at_call 14; go_must (refine (unhide P2 _ ((unhide HT).later hb1)).mono ?_; rintro e w2 ⟨rfl, hc2⟩; have hb2 := hb1.trans (hc2.mono hb1.size); clear hc2))
  go_upto_region 6 with (go_at_call 14; go_must (refine (unhide P3 _ ((unhide HT).later hb2)).mono ?_; rintro e w3 ⟨rfl, hc3⟩; have hb3 := hb2.trans (hc3.mono hb2.size); clear hc3))
  go_upto_region 8 with (go_at_call 7; go_must (refine (unhide C7 _).mono ?_; rintro e w' ⟨rfl, hw⟩; subst w'))
  go_cut [73] from 61 (fun b wx => b = .bool false ∧ Below w.heap.size w wx)
  case first =>
    rcases unhide HC1 with ⟨h1, e1⟩ | ⟨h1, e1⟩
    · have k1 : (E1 == 0) = true := by rw [e1]; rfl
      rcases unhide HC2 with ⟨h2, e2⟩ | ⟨h2, e2⟩
      · have k2 : (E2 == 0) = true := by rw [e2]; rfl
        have H12 := hide (fun W h => unhide PX W h1 h2 h)
        clear h1 h2 e1 e2
        go_wp2_with (go_at_call 12; go_must (refine (unhide H12 _ ((unhide HT).later hb3)).mono ?_; rintro e w4 ⟨rfl, hc4⟩; have hb4 := hb3.trans (hc4.mono hb3.size); clear hc4))
        all_goals (go_meet; exact ⟨rfl, hb4⟩)
      · have k2 : (E2 == 0) = false := by rw [e2]; rfl
        clear h1 h2 e1 e2
        go_wp2
        all_goals (go_meet; exact ⟨rfl, hb3⟩)
    · have k1 : (E1 == 0) = false := by rw [e1]; rfl
      clear h1 e1
      go_wp2
      all_goals (go_meet; exact ⟨rfl, hb3⟩)
  case rest =>
    obtain ⟨rfl, hb4⟩ := hcut
    clear hb1 hb2 hb3
    go_upto_region 11 with (go_at_call 15; go_must (refine (unhide P4 _ ((unhide HT).later hb4)).mono ?_; rintro e w5 ⟨rfl, hc5⟩; have hb5 := hb4.trans (hc5.mono hb4.size); clear hc5))
    go_upto_region 14 with (go_at_call 14; go_must (refine (unhide P5 _ ((unhide HT).later hb5)).mono ?_; rintro e w6 ⟨rfl, hc6'⟩; have hb6 := hb5.trans (hc6'.mono hb5.size); clear hc6'))
    go_upto_region 17 with (go_at_call 10; go_must (refine (unhide P6 _).mono ?_; rintro e w7 ⟨rfl, hc7⟩; have hb7 := hb6.trans (hc7.mono hb6.size); clear hc7))
    go_upto_region 18 with (go_at_call 11; go_must (refine (unhide P7 _ ((unhide HT).later hb7)).mono ?_; rintro e w8 ⟨rfl, hc8⟩; have hb8 := hb7.trans (hc8.mono hb7.size); clear hc8))
    rcases unhide HC4 with h | h
    · have hf := unhide HF h
      rcases unhide HC3 with ⟨h3, e3⟩ | ⟨h3, e3⟩
      · have P8' := hide (fun W hh => unhide P8 W h hh)
        rw [e3] at P8'
        have P9' := hide (fun W => unhide P9 W h3)
        clear h h3 e3
        go_wp2_with (first
          | (go_at_call 14; go_must (refine (unhide P8' _ ((unhide HT).later hb8)).mono ?_; rintro e w9 ⟨rfl, hc9⟩; have hb9 := hb8.trans (hc9.mono hb8.size); clear hc9))
          | (go_at_call 10; go_must (refine (unhide P9' _).mono ?_; rintro e w10 ⟨rfl, hc10⟩; have hb10 := hb9.trans (hc10.mono hb9.size); clear hc10))
          | (go_at_call 8; refine (known_any _ ((unhide HT).later hb10)).mono ?_; rintro e w11 ⟨rfl, hc11⟩; have hb11 := hb10.trans (hc11.mono hb10.size); clear hc11))
        all_goals go_ret
        all_goals exact ⟨rfl, hb11⟩
      · have P8' := hide (fun W hh => unhide P8 W h hh)
        rw [e3] at P8'
        clear h h3 e3
        go_wp2_with (first
          | (go_at_call 14; go_must (refine (unhide P8' _ ((unhide HT).later hb8)).mono ?_; rintro e w9 ⟨rfl, hc9⟩; have hb9 := hb8.trans (hc9.mono hb8.size); clear hc9))
          | (go_at_call 8; refine (known_any _ ((unhide HT).later hb9)).mono ?_; rintro e w11 ⟨rfl, hc11⟩; have hb11 := hb9.trans (hc11.mono hb9.size); clear hc11))
        all_goals go_ret
        all_goals exact ⟨rfl, hb11⟩
    · have he := unhide HE h
      have HZ' := hide (unhide HZ h)
      clear h
      go_wp2_with (first
        | (go_at_call 14; go_must (refine (unhide HZ' _ ((unhide HT).later hb8)).mono ?_; rintro e w9 ⟨rfl, hc9⟩; have hb9 := hb8.trans (hc9.mono hb8.size); clear hc9))
        | (go_at_call 8; refine (known_any _ ((unhide HT).later hb9)).mono ?_; rintro e w11 ⟨rfl, hc11⟩; have hb11 := hb9.trans (hc11.mono hb9.size); clear hc11))
      all_goals go_ret
      all_goals exact ⟨rfl, hb11⟩

theorem int_range {n : Int} (h : (Lit.int .i64 n).wf = true) : -9223372036854775808 ≤ n ∧ n ≤ 9223372036854775807 := by
  have e1 : IntKind.i64.min = -9223372036854775808 := rfl
  have e2 : IntKind.i64.max = 9223372036854775807 := rfl
  simp [Lit.wf, e1, e2] at h
  exact h
theorem natRaised_walk (s : ByteArray) (m n : Int) (w : World) (hs : s.size ≤ maxLen) (hm1 : -9223372036854775808 ≤ m) (hm2 : m ≤ 9223372036854775807) (hn1 : -9223372036854775808 ≤ n) (hn2 : n ≤ 9223372036854775807) (htab : Tab w) :
    Calls Tryd.prog 4 #[.string s, .int .i64 m, .int .i64 n] w fun e w' => e = .returned (.bool true) ∧ Below w.heap.size w w' := by
  cases hb : Cub.rightB s.data.toList with
  | false => exact natRaised_no s m n w hs hm1 hm2 hn1 hn2 hb htab
  | true =>
    obtain ⟨V, hV, rfl⟩ := tb_of hb
    exact natRaised_yes V m n w hV hm1 hm2 hn1 hn2 htab
end Go.Proofs.YtlodfcdckeiafabDoor
