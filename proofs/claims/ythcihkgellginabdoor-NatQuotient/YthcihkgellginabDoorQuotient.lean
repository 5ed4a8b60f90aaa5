/- The walk of NatQuotient: it answers true, whatever it is handed. -/
import Derived.Test.YthcihkgellginabDoorNatGcd
import Derived.Test.YthcihkgellginabDoorRingA
import Derived.Test.YthcihkgellginabDoorKnown
namespace Go.Proofs.YthcihkgellginabDoor
open Go.RowKit

/-- A call of two texts, told of every world. -/
def SaysT (f : Nat) (x y : ByteArray) (v : Value) : Prop := ∀ W, Tab W → Calls Tryd.prog f #[.string x, .string y] W fun e w' => e = .returned v ∧ Below W.heap.size W w'

set_option maxRecDepth 100000 in
set_option maxHeartbeats 1000000 in
theorem quotient_no (a b : ByteArray) (w : World) (ha : a.size ≤ maxLen) (hb : b.size ≤ maxLen) (h : (Cub.rightB a.data.toList && Cub.rightB b.data.toList) = false) (htab : Tab w) :
    Calls Tryd.prog 3 #[.string a, .string b] w fun e w' => e = .returned (.bool true) ∧ Below w.heap.size w w' := by
  have HD := hide (natDivMod_any a b w ha hb htab)
  have e1 : quoText a b = [] := by unfold quoText; rw [h]; rfl
  have e2 : remText a b = [] := by unfold remText; rw [h]; rfl
  have e3 : divErr a b = 3 := by unfold divErr; rw [h]; rfl
  rw [e1, e2, e3] at HD
  have HT := hide htab
  have Ra := hide (fun W => refRight_any a W ha)
  have Rb := hide (fun W => refRight_any b W hb)
  clear e1 e2 e3 htab ha hb
  cases h1 : Cub.rightB a.data.toList with
  | false =>
    rw [h1] at Ra
    clear h h1 Rb
    go_enter Tryd.func3, Tryd.ntmps3
    go_wp2_with (first
      | (go_at_call 6; refine (unhide HD).mono ?_; rintro e w1 ⟨rfl, hb1⟩)
      | (go_at_call 7; refine (unhide Ra w1).mono ?_; rintro e w2 ⟨rfl, hw⟩; rw [hw]; clear hw)
      | (go_at_call 8; refine (known_any _ ((unhide HT).later hb1)).mono ?_; rintro e w9 ⟨rfl, hc9⟩))
    go_ret
    exact ⟨rfl, hb1.trans (hc9.mono hb1.size)⟩
  | true =>
    have h2 : Cub.rightB b.data.toList = false := by rw [h1] at h; simpa using h
    rw [h1] at Ra
    rw [h2] at Rb
    clear h h1 h2
    go_enter Tryd.func3, Tryd.ntmps3
    go_wp2_with fail
    refine (unhide HD).mono ?_
    rintro e w1 ⟨rfl, hb1⟩
    go_wp2_with fail
    refine (unhide Ra w1).mono ?_
    rintro e w2 ⟨rfl, hw⟩; rw [hw]; clear hw
    go_wp2_with fail
    refine (unhide Rb w1).mono ?_
    rintro e w2 ⟨rfl, hw⟩; rw [hw]; clear hw
    go_wp2_with (go_at_call 8; refine (known_any _ ((unhide HT).later hb1)).mono ?_; rintro e w9 ⟨rfl, hc9⟩)
    go_ret
    exact ⟨rfl, hb1.trans (hc9.mono hb1.size)⟩

set_option maxRecDepth 100000 in
set_option maxHeartbeats 1000000 in
theorem quotient_zero (a b : ByteArray) (w : World) (hz : (b.toList == [48]) = true) (htab : Tab w)
    (ra : ∀ W, Calls Tryd.prog 7 #[.string a] W fun e w' => e = .returned (.bool true) ∧ w' = W)
    (rb : ∀ W, Calls Tryd.prog 7 #[.string b] W fun e w' => e = .returned (.bool true) ∧ w' = W)
    (hd : SaysT 6 a b (.tuple #[.string ⟨#[]⟩, .string ⟨#[]⟩, .int .i64 8])) (hg : SaysT 9 a b (.tuple #[.string a, .int .i64 0])) :
    Calls Tryd.prog 3 #[.string a, .string b] w fun e w' => e = .returned (.bool true) ∧ Below w.heap.size w w' := by
  have HT := hide htab
  have Ra := hide ra
  have Rb := hide rb
  have HD := hide hd
  have HG := hide hg
  clear ra rb hd hg htab
  go_enter Tryd.func3, Tryd.ntmps3
  go_wp2_with fail
  refine (unhide HD w (unhide HT)).mono ?_
  rintro e w1 ⟨rfl, hb1⟩
  go_wp2_with fail
  refine (unhide Ra w1).mono ?_
  rintro e w2 ⟨rfl, hw⟩; rw [hw]; clear hw
  go_wp2_with fail
  refine (unhide Rb w1).mono ?_
  rintro e w2 ⟨rfl, hw⟩; rw [hw]; clear hw
  go_wp2_with fail
  refine (unhide HG w1 ((unhide HT).later hb1)).mono ?_
  rintro e w3 ⟨rfl, hc3⟩; have hb3 := hb1.trans (hc3.mono hb1.size); clear hc3
  go_wp2_with (go_at_call 8; refine (known_any _ ((unhide HT).later hb3)).mono ?_; rintro e w9 ⟨rfl, hc9⟩)
  go_ret
  exact ⟨rfl, hb3.trans (hc9.mono hb3.size)⟩

set_option maxRecDepth 100000 in
set_option maxHeartbeats 2000000 in
theorem quotient_core (a b q r p g x y : ByteArray) (k : Int) (w : World) (hz : (b.toList == [48]) = false) (hk : k < 0) (htab : Tab w)
    (ra : ∀ W, Calls Tryd.prog 7 #[.string a] W fun e w' => e = .returned (.bool true) ∧ w' = W)
    (rb : ∀ W, Calls Tryd.prog 7 #[.string b] W fun e w' => e = .returned (.bool true) ∧ w' = W)
    (hd : SaysT 6 a b (.tuple #[.string q, .string r, .int .i64 0])) (hc : SaysT 10 r b (.tuple #[.int .i64 k, .int .i64 0])) (hm : SaysT 12 q b (.string p)) (ha : SaysT 11 p r (.string a))
    (hg1 : SaysT 9 a b (.tuple #[.string g, .int .i64 0])) (hg2 : SaysT 9 b r (.tuple #[.string g, .int .i64 0]))
    (hd1 : SaysT 6 a g (.tuple #[.string x, .string ⟨#[48]⟩, .int .i64 0])) (hd2 : SaysT 6 b g (.tuple #[.string y, .string ⟨#[48]⟩, .int .i64 0])) :
    Calls Tryd.prog 3 #[.string a, .string b] w fun e w' => e = .returned (.bool true) ∧ Below w.heap.size w w' := by
  have HT := hide htab
  have Ra := hide ra
  have Rb := hide rb
  have HD := hide hd
  have HC := hide hc
  have HM := hide hm
  have HA := hide ha
  have HG1 := hide hg1
  have HG2 := hide hg2
  have HD1 := hide hd1
  have HD2 := hide hd2
  clear ra rb hd hc hm ha hg1 hg2 hd1 hd2 htab
  go_enter Tryd.func3, Tryd.ntmps3
  go_wp2_with fail
  refine (unhide HD w (unhide HT)).mono ?_
  rintro e w1 ⟨rfl, hb1⟩
  go_wp2_with fail
  refine (unhide Ra w1).mono ?_
  rintro e w2 ⟨rfl, hw⟩; rw [hw]; clear hw
  go_wp2_with fail
  refine (unhide Rb w1).mono ?_
  rintro e w2 ⟨rfl, hw⟩; rw [hw]; clear hw
  go_wp2_with fail
  refine (unhide HC w1 ((unhide HT).later hb1)).mono ?_
  rintro e w3 ⟨rfl, hc3⟩; have hb3 := hb1.trans (hc3.mono hb1.size); clear hc3
  go_wp2_with fail
  refine (unhide HM w3 ((unhide HT).later hb3)).mono ?_
  rintro e w4 ⟨rfl, hc4⟩; have hb4 := hb3.trans (hc4.mono hb3.size); clear hc4
  go_wp2_with fail
  refine (unhide HA w4 ((unhide HT).later hb4)).mono ?_
  rintro e w5 ⟨rfl, hc5⟩; have hb5 := hb4.trans (hc5.mono hb4.size); clear hc5
  go_wp2_with fail
  refine (unhide HG1 w5 ((unhide HT).later hb5)).mono ?_
  rintro e w6 ⟨rfl, hc6⟩; have hb6 := hb5.trans (hc6.mono hb5.size); clear hc6
  go_wp2_with fail
  refine (unhide HG2 w6 ((unhide HT).later hb6)).mono ?_
  rintro e w7 ⟨rfl, hc7⟩; have hb7 := hb6.trans (hc7.mono hb6.size); clear hc7
  go_wp2_with fail
  refine (unhide HD1 w7 ((unhide HT).later hb7)).mono ?_
  rintro e w8 ⟨rfl, hc8⟩; have hb8 := hb7.trans (hc8.mono hb7.size); clear hc8
  go_wp2_with fail
  refine (unhide HD2 w8 ((unhide HT).later hb8)).mono ?_
  rintro e w9 ⟨rfl, hc9⟩; have hb9 := hb8.trans (hc9.mono hb8.size); clear hc9
  go_wp2_with (go_at_call 8; refine (known_any _ ((unhide HT).later hb9)).mono ?_; rintro e w10 ⟨rfl, hc10⟩)
  go_ret
  exact ⟨rfl, hb9.trans (hc10.mono hb9.size)⟩

theorem div_lt (m n : Nat) (d : Nat) (hm : m < 10 ^ d) : m / n < 10 ^ d := Nat.lt_of_le_of_lt (Nat.div_le_self _ _) hm
theorem mod_lt' (m n : Nat) (d : Nat) (hm : m < 10 ^ d) : m % n < 10 ^ d := Nat.lt_of_le_of_lt (Nat.mod_le _ _) hm
theorem val_tb (m : Nat) (hm : m < 10 ^ 600) : val (tb m) = m := (tb_right m hm).2
theorem mk_tb (m : Nat) (hm : m < 10 ^ 600) : (⟨(Lib.decDigits m).toArray⟩ : ByteArray) = tb m := by
  have := tb_list m hm
  rw [← this]
theorem divN (m n : Nat) (hm : m < 10 ^ 600) (hn : n < 10 ^ 600) (h0 : 0 < n) : SaysT 6 (tb m) (tb n) (.tuple #[.string (tb (m / n)), .string (tb (m % n)), .int .i64 0]) := fun W hW => by
  have h := natDivMod_any (tb m) (tb n) W (tb_size m hm) (tb_size n hn) hW
  unfold quoText remText divErr at h
  simp only [(tb_right m hm).1, (tb_right n hn).1, val_tb m hm, val_tb n hn, Bool.and_self, if_true, show ¬ n = 0 by omega, if_false] at h
  rw [mk_tb _ (div_lt m n 600 hm), mk_tb _ (mod_lt' m n 600 hm)] at h
  exact h
theorem divZ (m : Nat) (hm : m < 10 ^ 600) (h0 : 0 < 10 ^ 600) : SaysT 6 (tb m) (tb 0) (.tuple #[.string ⟨#[]⟩, .string ⟨#[]⟩, .int .i64 8]) := fun W hW => by
  have h := natDivMod_any (tb m) (tb 0) W (tb_size m hm) (tb_size 0 h0) hW
  unfold quoText remText divErr at h
  simp only [(tb_right m hm).1, (tb_right 0 h0).1, val_tb m hm, val_tb 0 h0, Bool.and_self, if_true] at h
  exact h
theorem gcdN (m n g : Nat) (hm : m < 10 ^ 600) (hn : n < 10 ^ 600) (hg : g = Nat.gcd m n) : SaysT 9 (tb m) (tb n) (.tuple #[.string (tb g), .int .i64 0]) := fun W hW => by
  subst hg
  have h := natGcd_any (tb m) (tb n) W (tb_size m hm) (tb_size n hn) hW
  unfold gcdText gcdErr at h
  have hlt : Nat.gcd m n < 10 ^ 600 := by
    rcases gcd_le m n with h | h
    · exact Nat.lt_of_le_of_lt h hm
    · exact Nat.lt_of_le_of_lt h hn
  simp only [(tb_right m hm).1, (tb_right n hn).1, val_tb m hm, val_tb n hn, Bool.and_self, if_true] at h
  rw [mk_tb _ hlt] at h
  exact h
theorem tb_zero (h0 : 0 < 10 ^ 600) : ((tb 0).toList == [48]) = true := by
  rw [Lib.toList_data, tb_list 0 h0, dec_zero]; rfl
theorem tb_zero' (h0 : 0 < 10 ^ 600) : tb 0 = ⟨#[48]⟩ := by
  rw [← mk_tb 0 h0, dec_zero]
theorem tb_pos (n : Nat) (hn : n < 10 ^ 600) (h0 : 0 < n) : ((tb n).toList == [48]) = false := by
  rw [Lib.toList_data, tb_list n hn, beq_eq_false_iff_ne]
  intro e
  rw [← dec_zero] at e
  have := Cub.dec_inj e
  omega
theorem pos10 (d : Nat) : 0 < 10 ^ d := Nat.pow_pos (by decide)

theorem natQuotient_walk (s t : ByteArray) (w : World) (hs : s.size ≤ maxLen) (ht : t.size ≤ maxLen) (htab : Tab w) :
    Calls Tryd.prog 3 #[.string s, .string t] w fun e w' => e = .returned (.bool true) ∧ Below w.heap.size w w' := by
  cases hb : (Cub.rightB s.data.toList && Cub.rightB t.data.toList) with
  | false => exact quotient_no s t w hs ht hb htab
  | true =>
    rw [Bool.and_eq_true] at hb
    obtain ⟨m, hm, rfl⟩ := tb_of hb.1
    obtain ⟨n, hn, rfl⟩ := tb_of hb.2
    have ra : ∀ W, Calls Tryd.prog 7 #[.string (tb m)] W fun e w' => e = .returned (.bool true) ∧ w' = W := fun W => by
      have := refRight_any (tb m) W hs; rw [hb.1] at this; exact this
    have rb : ∀ W, Calls Tryd.prog 7 #[.string (tb n)] W fun e w' => e = .returned (.bool true) ∧ w' = W := fun W => by
      have := refRight_any (tb n) W ht; rw [hb.2] at this; exact this
    rcases Nat.eq_zero_or_pos n with h0 | h0
    · subst h0
      exact quotient_zero (tb m) (tb 0) w (tb_zero hn) htab ra rb (divZ m hm hn) (gcdN m 0 m hm hn (Nat.gcd_zero_right m).symm)
    · have hmod : m % n < n := Nat.mod_lt _ h0
      have hg0 : 0 < Nat.gcd m n := Nat.gcd_pos_of_pos_right _ h0
      have hgl : Nat.gcd m n < 10 ^ 600 := Nat.lt_of_le_of_lt (Nat.gcd_le_right _ h0) hn
      have hqn : m / n * n < 10 ^ 600 := Nat.lt_of_le_of_lt (Nat.div_mul_le_self m n) hm
      have d1 := divN m (Nat.gcd m n) hm hgl hg0
      rw [Nat.mod_eq_zero_of_dvd (Nat.gcd_dvd_left m n), tb_zero' (pos10 600)] at d1
      have d2 := divN n (Nat.gcd m n) hn hgl hg0
      rw [Nat.mod_eq_zero_of_dvd (Nat.gcd_dvd_right m n), tb_zero' (pos10 600)] at d2
      refine quotient_core (tb m) (tb n) (tb (m / n)) (tb (m % n)) (tb (m / n * n)) (tb (Nat.gcd m n)) (tb (m / Nat.gcd m n)) (tb (n / Nat.gcd m n)) (Cub.cmpN (m % n) n) w (tb_pos n hn h0) (by rw [Cub.cmpN_lt hmod]; decide) htab ra rb (divN m n hm hn h0) ?_ ?_ ?_ (gcdN m n _ hm hn rfl) (gcdN n (m % n) _ hn (mod_lt' m n 600 hm) ?_) d1 d2
      · intro W _; exact cmpTN (m % n) n _ W (mod_lt' m n 600 hm) hn rfl
      · intro W hW; exact mulN (m / n) n _ W (div_lt m n 600 hm) hn rfl hW
      · intro W hW; exact addN (m / n * n) (m % n) m W hqn (mod_lt' m n 600 hm) (by rw [Nat.mul_comm]; exact (Nat.div_add_mod m n).symm) hW
      · rw [Nat.gcd_comm m n, Nat.gcd_rec n m, Nat.gcd_comm]
end Go.Proofs.YthcihkgellginabDoor
