/- The document's Common, DivMod and Gcd. -/
import Derived.Test.YthcihkgellginaaDoorRefDivide
import Derived.Test.YthcihkgellginaaDoorRingA
import Derived.Test.YthcihkgellginaaDoorRefOps
import Derived.Test.YthcihkgellginaaDoorNatGcd
namespace Go.Proofs.YthcihkgellginaaDoor
open Go.RowKit

theorem val_tb (m : Nat) (hm : m < 10 ^ 600) : val (tb m) = m := (tb_right m hm).2
theorem mk_tb (m : Nat) (hm : m < 10 ^ 600) : (⟨(Lib.decDigits m).toArray⟩ : ByteArray) = tb m := by
  have := tb_list m hm
  rw [← this]
theorem div_lt (m n : Nat) (d : Nat) (hm : m < 10 ^ d) : m / n < 10 ^ d := Nat.lt_of_le_of_lt (Nat.div_le_self _ _) hm
theorem mod_lt' (m n : Nat) (d : Nat) (hm : m < 10 ^ d) : m % n < 10 ^ d := Nat.lt_of_le_of_lt (Nat.mod_le _ _) hm
theorem pos10 (d : Nat) : 0 < 10 ^ d := Nat.pow_pos (by decide)
theorem tb_zero (h0 : 0 < 10 ^ 600) : ((tb 0).toList == [48]) = true := by
  rw [Lib.toList_data, tb_list 0 h0, dec_zero]; rfl
theorem tb_pos (n : Nat) (hn : n < 10 ^ 600) (h0 : 0 < n) : ((tb n).toList == [48]) = false := by
  rw [Lib.toList_data, tb_list n hn, beq_eq_false_iff_ne]
  intro e
  rw [← dec_zero] at e
  have := Cub.dec_inj e
  omega
theorem refDivideN (m n : Nat) (w : World) (hm : m < 10 ^ 600) (hn : n < 10 ^ 600) (h0 : 0 < n) :
    Calls Tryd.prog 59 #[.string (tb m), .string (tb n)] w fun e w' => e = .returned (.tuple #[.string (tb (m / n)), .string (tb (m % n))]) ∧ Below w.heap.size w w' := by
  have h := refDivide_any (tb m) (tb n) w (tb_right m hm).1 (tb_right n hn).1 (by rw [val_tb n hn]; exact h0)
  rw [val_tb m hm, val_tb n hn, mk_tb _ (div_lt m n 600 hm), mk_tb _ (mod_lt' m n 600 hm)] at h
  exact h
/-- How far Euclid's steps have come. -/
def ComInv (M N m n : Nat) (a b : ByteArray) : Prop := a = tb m ∧ b = tb n ∧ m < 10 ^ 600 ∧ n < 10 ^ 600 ∧ Nat.gcd m n = Nat.gcd M N

set_option maxRecDepth 100000 in
set_option maxHeartbeats 400000 in
theorem refCommon_any (M N : Nat) (w : World) (hM : M < 10 ^ 600) (hN : N < 10 ^ 600) :
    Calls Tryd.prog 61 #[.string (tb M), .string (tb N)] w fun e w' => e = .returned (.string (tb (Nat.gcd M N))) ∧ Below w.heap.size w w' := by
  have HI : Hid (ComInv M N M N (tb M) (tb N)) := ⟨rfl, rfl, hM, hN, rfl⟩
  have HD : Hid (∀ m n (a b : ByteArray), ComInv M N m n a b → 0 < n → ∃ c r : ByteArray, ComInv M N n (m % n) b r ∧ ∀ W, Calls Tryd.prog 59 #[.string a, .string b] W fun e w' => e = .returned (.tuple #[.string c, .string r]) ∧ Below W.heap.size W w') := fun m n a b h h0 => by
    obtain ⟨rfl, rfl, hm, hn, hg⟩ := h
    refine ⟨tb (m / n), tb (m % n), ⟨rfl, rfl, hn, mod_lt' m n 600 hm, ?_⟩, fun W => refDivideN m n W hm hn h0⟩
    rw [← hg, Nat.gcd_comm m n, Nat.gcd_rec n m, Nat.gcd_comm]
  have HZ : Hid (∀ m n (a b : ByteArray), ComInv M N m n a b → 0 < n → (b.toList == [48]) = false) := fun m n a b h h0 => by
    obtain ⟨rfl, rfl, hm, hn, hg⟩ := h
    exact tb_pos n hn h0
  have HE : Hid (∀ m (a b : ByteArray), ComInv M N m 0 a b → (b.toList == [48]) = true ∧ a = tb (Nat.gcd M N)) := fun m a b h => by
    obtain ⟨rfl, rfl, hm, hn, hg⟩ := h
    rw [Nat.gcd_zero_right] at hg
    exact ⟨tb_zero hn, by rw [← hg]⟩
  generalize tb M = a0 at *
  generalize tb N = b0 at *
  clear hM hN
  go_enter Tryd.func61, Tryd.ntmps61
  go_wp2
  go_loopg [0, 1] N (fun z v0 v1 wr => ∃ (m n : Nat) (a b : ByteArray), v0 = .string a ∧ v1 = .string b ∧ Hid (z = n) ∧ Hid (ComInv M N m n a b) ∧ Hid (Below w.heap.size w wr))
  case atStart => exact ⟨M, N, a0, b0, rfl, rfl, rfl, HI, Below.refl _ _⟩
  case round =>
    obtain ⟨m, n, a, b, rfl, rfl, HK, HC, HW⟩ := hrel
    clear HI
    rcases Nat.eq_zero_or_pos n with h0 | h0
    · subst h0
      obtain ⟨e1, e2⟩ := unhide HE m a b (unhide HC)
      have HV := hide e2
      clear e2 HE HD HZ HC
      go_wp2_with fail
      go_ret
      exact ⟨by rw [← unhide HV]; rfl, unhide HW⟩
    · have e1 := unhide HZ m n a b (unhide HC) h0
      obtain ⟨c, r, hc, hd⟩ := unhide HD m n a b (unhide HC) h0
      have HC2 := hide hc
      have HD2 := hide hd
      have HLT : Hid (m % n < n) := Nat.mod_lt _ h0
      clear hc hd HE HD HZ HC h0
      go_wp2_with (go_at_call 59; go_must (refine (unhide HD2 wr).mono ?_; rintro e w2 ⟨rfl, hb2⟩; have HW2 := hide ((unhide HW).trans (hb2.mono (unhide HW).size)); clear hb2))
      go_roundg (m % n)
      case measure => have := unhide HK; have := unhide HLT; omega
      case rel => exact ⟨n, m % n, b, r, rfl, rfl, rfl, HC2, HW2⟩

theorem refDivMod_any (s t : ByteArray) (w : World) (hs : s.size ≤ maxLen) (ht : t.size ≤ maxLen) :
    Calls Tryd.prog 26 #[.string s, .string t] w fun e w' => e = .returned (.tuple #[.string ⟨(quoText s t).toArray⟩, .string ⟨(remText s t).toArray⟩, .int .i64 (divErr s t)]) ∧ Below w.heap.size w w' := by
  have R := hide (fun W => right2_any s t W hs ht)
  unfold quoText remText divErr
  cases hb : (Cub.rightB s.data.toList && Cub.rightB t.data.toList) with
  | false =>
    simp only [Bool.false_eq_true, if_false]
    rw [hb] at R
    clear hb
    go_enter Tryd.func26, Tryd.ntmps26
    go_wp2_with (go_at_call 46; refine (unhide R _).mono ?_; rintro e w2 ⟨rfl, rfl⟩)
    go_ret3
    exact ⟨rfl, (Below.refl _ _).alloc (Nat.le_refl _) _⟩
  | true =>
    rw [hb] at R
    rw [Bool.and_eq_true] at hb
    simp only [if_true]
    by_cases h0 : val t = 0
    · have hz : (t.toList == [48]) = true := by rw [Lib.toList_data, zero_text hb.2 h0]; rfl
      simp only [h0, if_true]
      clear hb h0
      go_enter Tryd.func26, Tryd.ntmps26
      go_wp2_with (go_at_call 46; refine (unhide R _).mono ?_; rintro e w2 ⟨rfl, rfl⟩)
      go_ret3
      exact ⟨rfl, (Below.refl _ _).alloc (Nat.le_refl _) _⟩
    · have hz : (t.toList == [48]) = false := by
        rw [beq_eq_false_iff_ne]
        intro e
        exact h0 (zero_val (by rw [← Lib.toList_data]; exact e))
      have HD := hide (fun W => refDivide_any s t W hb.1 hb.2 (by omega))
      simp only [h0, if_false]
      clear hb h0
      generalize Lib.decDigits (val s / val t) = A at *
      generalize Lib.decDigits (val s % val t) = B at *
      go_enter Tryd.func26, Tryd.ntmps26
      go_wp2_with (first
        | (go_at_call 46; refine (unhide R _).mono ?_; rintro e w2 ⟨rfl, rfl⟩)
        | (go_at_call 59; refine (unhide HD _).mono ?_; rintro e w3 ⟨rfl, hb3⟩))
      go_ret3
      exact ⟨rfl, ((Below.refl _ _).alloc (Nat.le_refl _) _).trans (hb3.mono (by simp))⟩

theorem refGcd_any (s t : ByteArray) (w : World) (hs : s.size ≤ maxLen) (ht : t.size ≤ maxLen) :
    Calls Tryd.prog 28 #[.string s, .string t] w fun e w' => e = .returned (.tuple #[.string ⟨(gcdText s t).toArray⟩, .int .i64 (gcdErr s t)]) ∧ Below w.heap.size w w' := by
  have R := hide (fun W => right2_any s t W hs ht)
  unfold gcdText gcdErr
  cases hb : (Cub.rightB s.data.toList && Cub.rightB t.data.toList) with
  | false =>
    simp only [Bool.false_eq_true, if_false]
    rw [hb] at R
    clear hb
    go_enter Tryd.func28, Tryd.ntmps28
    go_wp2_with (go_at_call 46; refine (unhide R _).mono ?_; rintro e w2 ⟨rfl, rfl⟩)
    go_ret2
    exact ⟨rfl, (Below.refl _ _).alloc (Nat.le_refl _) _⟩
  | true =>
    rw [hb] at R
    rw [Bool.and_eq_true] at hb
    simp only [if_true]
    have HC : Hid (∀ W, Calls Tryd.prog 61 #[.string s, .string t] W fun e w' => e = .returned (.string ⟨(Lib.decDigits (Nat.gcd (val s) (val t))).toArray⟩) ∧ Below W.heap.size W w') := fun W => by
      obtain ⟨m, hm, rfl⟩ := tb_of hb.1
      obtain ⟨n, hn, rfl⟩ := tb_of hb.2
      rw [val_tb m hm, val_tb n hn]
      have hlt : Nat.gcd m n < 10 ^ 600 := by
        rcases gcd_le m n with h | h
        · exact Nat.lt_of_le_of_lt h hm
        · exact Nat.lt_of_le_of_lt h hn
      rw [mk_tb _ hlt]
      exact refCommon_any m n W hm hn
    clear hb
    generalize Lib.decDigits (Nat.gcd (val s) (val t)) = G at *
    go_enter Tryd.func28, Tryd.ntmps28
    go_wp2_with (first
      | (go_at_call 46; refine (unhide R _).mono ?_; rintro e w2 ⟨rfl, rfl⟩)
      | (go_at_call 61; refine (unhide HC _).mono ?_; rintro e w3 ⟨rfl, hb3⟩))
    go_ret2
    exact ⟨rfl, ((Below.refl _ _).alloc (Nat.le_refl _) _).trans (hb3.mono (by simp))⟩
end Go.Proofs.YthcihkgellginaaDoor
