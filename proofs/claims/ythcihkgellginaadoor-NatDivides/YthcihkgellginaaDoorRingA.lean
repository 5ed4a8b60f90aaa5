/- nat.allRight, nat.Prod where a text is not right, and the law's own add and mul. -/
import Derived.Test.YthcihkgellginaaDoorNatOps
import Derived.Test.YthcihkgellginaaDoorKnown
namespace Go.Proofs.YthcihkgellginaaDoor
open Go.RowKit

set_option maxRecDepth 100000 in
set_option maxHeartbeats 400000 in
theorem allRight_any (a : Option Addr) (n cap : Nat) (ss : List ByteArray) (w : World) (hn : n = ss.length) (hmax : n ≤ 9223372036854775807)
    (hc : ∀ i (hi : i < ss.length), ∃ b o, a = some ⟨b, o, none⟩ ∧ w.cell? ⟨b, o + i, none⟩ = some (.string ss[i])) (hs : ∀ i (hi : i < ss.length), ss[i].size ≤ maxLen) :
    Calls Tryd.prog 67 #[.slice a n cap] w fun e w' => e = .returned (.bool (allRight ss)) ∧ w' = w := by
  have HN := hide hn
  have HC := hide hc
  have HS := hide hs
  clear hn hc hs
  go_enter Tryd.func67, Tryd.ntmps67
  go_wp2
  go_loop [7] (fun t => ∃ k : Nat, k ≤ n ∧ t = .int .i64 (k : Int) ∧ Hid (∀ i (hi : i < ss.length), i < k → Cub.rightB ss[i].data.toList = true)) (fun t => n - (intOf t).toNat)
  case atStart => exact ⟨0, Nat.zero_le _, rfl, fun i _ h => absurd h (Nat.not_lt_zero _)⟩
  case round =>
    obtain ⟨k, hk, rfl, HA⟩ := hrel
    by_cases hkn : k < n
    · have hkl : k < ss.length := by have := unhide HN; omega
      obtain ⟨b, o, rfl, hx⟩ := unhide HC k hkl
      have hsz := unhide HS k hkl
      have HR := hide (fun W => right_any ss[k] W hsz)
      cases hb : Cub.rightB ss[k].data.toList with
      | true =>
        have HA' : Hid (∀ i (hi : i < ss.length), i < k + 1 → Cub.rightB ss[i].data.toList = true) := fun i hi h => by
          by_cases e : i < k
          · exact unhide HA i hi e
          · have : i = k := by omega
            subst this; exact hb
        rw [hb] at HR
        generalize ss[k] = s at *
        clear hb
        go_wp2_with (go_at_call 13; refine (unhide HR _).mono ?_; rintro e w' ⟨rfl, rfl⟩)
        go_round
        case rel => exact ⟨k + 1, by omega, by go_num, HA'⟩
        case measure => simp [intOf]; omega
      | false =>
        have HF := hide (allRight_bad ss k hkl hb)
        rw [hb] at HR
        generalize ss[k] = s at *
        clear hb
        go_wp2_with (go_at_call 13; refine (unhide HR _).mono ?_; rintro e w' ⟨rfl, rfl⟩)
        go_ret
        exact ⟨by rw [unhide HF]; rfl, rfl⟩
    · have HF : Hid (allRight ss = true) := allRight_good ss (fun i hi => unhide HA i hi (by have := unhide HN; omega))
      go_wp2
      go_ret
      exact ⟨by rw [unhide HF]; rfl, rfl⟩

theorem prod_no (a : Option Addr) (n cap : Nat) (ss : List ByteArray) (w : World) (hn : n = ss.length) (hmax : n ≤ 9223372036854775807)
    (hc : ∀ i (hi : i < ss.length), ∃ b o, a = some ⟨b, o, none⟩ ∧ w.cell? ⟨b, o + i, none⟩ = some (.string ss[i])) (hs : ∀ i (hi : i < ss.length), ss[i].size ≤ maxLen) (h : allRight ss = false) :
    Calls Tryd.prog 36 #[.slice a n cap] w fun e w' => e = .returned (.tuple #[.string ⟨#[]⟩, .int .i64 3]) ∧ w' = w := by
  have HR := hide (fun W (e : W = w) => by have h1 := allRight_any a n cap ss W hn hmax (by rw [e]; exact hc) hs; rw [h] at h1; exact h1)
  clear hn hc hs h
  go_enter Tryd.func36, Tryd.ntmps36
  go_wp2_with (go_at_call 67; refine (unhide HR _ rfl).mono ?_; rintro e w' ⟨rfl, rfl⟩)
  go_ret2
  exact ⟨rfl, rfl⟩

theorem prod3_no (s t u : ByteArray) (w : World) (hs : s.size ≤ maxLen) (ht : t.size ≤ maxLen) (hu : u.size ≤ maxLen) (h : allRight [s, t, u] = false) :
    Calls Tryd.prog 36 #[.slice (some ⟨w.heap.size, 0, none⟩) 3 3] (w.alloc (.cells #[.string s, .string t, .string u] 9)) fun e w' => e = .returned (.tuple #[.string ⟨#[]⟩, .int .i64 3]) ∧ w' = w.alloc (.cells #[.string s, .string t, .string u] 9) :=
  prod_no (some ⟨w.heap.size, 0, none⟩) 3 3 [s, t, u] (w.alloc (.cells #[.string s, .string t, .string u] 9)) rfl (by omega) (fun i hi => ⟨w.heap.size, 0, rfl, by
    rw [Nat.zero_add, World.cell?_alloc_at _ _ _ _ rfl]
    match i, hi with
    | 0, _ => rfl
    | 1, _ => rfl
    | 2, _ => rfl⟩) (fun i hi => by
    match i, hi with
    | 0, _ => exact hs
    | 1, _ => exact ht
    | 2, _ => exact hu) h

theorem mk_list (l : List UInt8) : (⟨l.toArray⟩ : ByteArray).data.toList = l := rfl
theorem toldText_pos (n : Nat) (h : n < 10 ^ 600) : toldText n = Lib.decDigits n := by
  unfold toldText; rw [if_pos h]
theorem toldText_neg (n : Nat) (h : ¬ n < 10 ^ 600) : toldText n = [] := by
  unfold toldText; rw [if_neg h]
/-- The text of a number, or the empty one where it is too large. -/
def tb (n : Nat) : ByteArray := ⟨(toldText n).toArray⟩
theorem tb_list (n : Nat) (h : n < 10 ^ 600) : (tb n).data.toList = Lib.decDigits n := by
  exact (mk_list (toldText n)).trans (toldText_pos n h)
theorem tb_right (n : Nat) (h : n < 10 ^ 600) : Cub.rightB (tb n).data.toList = true ∧ Cub.dval (tb n).data.toList = n := by
  rw [tb_list n h]
  refine ⟨(Cub.rightB_iff _).2 ⟨Cub.isNat_dec n, ?_⟩, Cub.dval_dec n⟩
  rw [Lib.decDigits_length]; exact (len600 n).2 h
theorem tb_empty (n : Nat) (h : ¬ n < 10 ^ 600) : (tb n).toList.isEmpty = true := by
  rw [Lib.toList_data]
  unfold tb
  rw [mk_list, toldText_neg n h]; rfl
theorem tb_full (n : Nat) (h : n < 10 ^ 600) : (tb n).toList.isEmpty = false := by
  rw [Lib.toList_data, tb_list n h]
  cases e : Lib.decDigits n with
  | nil => exact absurd e (Cub.dec_ne_nil n)
  | cons a t => rfl
theorem tb_of {s : ByteArray} (h : Cub.rightB s.data.toList = true) : ∃ n, n < 10 ^ 600 ∧ s = tb n := by
  obtain ⟨h1, h2⟩ := (Cub.rightB_iff _).1 h
  have h3 := Nat.lt_of_lt_of_le (Cub.dval_lt h1.1) (Nat.pow_le_pow_right (n := 10) (by decide) h2)
  refine ⟨Cub.dval s.data.toList, h3, ?_⟩
  have e : s.data.toList = (tb (Cub.dval s.data.toList)).data.toList := by rw [tb_list _ h3]; exact (Cub.dec_dval _ _ rfl h1).symm
  apply ByteArray.ext
  exact Array.ext' e
theorem tb_size (n : Nat) (h : n < 10 ^ 600) : (tb n).size ≤ maxLen := by
  have h1 := ((Cub.rightB_iff _).1 (tb_right n h).1).2
  rw [list_len] at h1
  unfold maxLen; omega

theorem add39 (s t : ByteArray) (w : World) (X : ByteArray) (E : Int) (h : ∀ W, Tab W → Calls Tryd.prog 17 #[.string s, .string t] W fun e w' => e = .returned (.tuple #[.string X, .int .i64 E]) ∧ Below W.heap.size W w') (htab : Tab w) :
    Calls Tryd.prog 39 #[.string s, .string t] w fun e w' => e = .returned (.string X) ∧ Below w.heap.size w w' := by
  have HC := hide h
  have HT := hide htab
  clear h htab
  go_enter Tryd.func39, Tryd.ntmps39
  go_wp2_with (go_at_call 17; refine (unhide HC _ (unhide HT)).mono ?_; rintro e w2 ⟨rfl, hb2⟩)
  go_ret
  exact ⟨rfl, hb2⟩
theorem mul40 (s t : ByteArray) (w : World) (X : ByteArray) (E : Int) (h : ∀ W, Tab W → Calls Tryd.prog 21 #[.string s, .string t] W fun e w' => e = .returned (.tuple #[.string X, .int .i64 E]) ∧ Below W.heap.size W w') (htab : Tab w) :
    Calls Tryd.prog 40 #[.string s, .string t] w fun e w' => e = .returned (.string X) ∧ Below w.heap.size w w' := by
  have HC := hide h
  have HT := hide htab
  clear h htab
  go_enter Tryd.func40, Tryd.ntmps40
  go_wp2_with (go_at_call 21; refine (unhide HC _ (unhide HT)).mono ?_; rintro e w2 ⟨rfl, hb2⟩)
  go_ret
  exact ⟨rfl, hb2⟩

/-- The law's add and mul of two numbers' texts; Sub, Cmp likewise. -/
theorem addN (m n r : Nat) (w : World) (hm : m < 10 ^ 600) (hn : n < 10 ^ 600) (hr : r = m + n) (htab : Tab w) :
    Calls Tryd.prog 39 #[.string (tb m), .string (tb n)] w fun e w' => e = .returned (.string (tb r)) ∧ Below w.heap.size w w' := by
  subst hr
  refine add39 _ _ w (tb (m + n)) (toldErr (m + n)) (fun W hW => ?_) htab
  have h := natAdd_any (tb m) (tb n) W (tb_size m hm) (tb_size n hn) hW
  simp only [(tb_right m hm).1, (tb_right n hn).1, (tb_right m hm).2, (tb_right n hn).2, Bool.and_self, if_true] at h
  exact h
theorem mulN (m n r : Nat) (w : World) (hm : m < 10 ^ 600) (hn : n < 10 ^ 600) (hr : r = m * n) (htab : Tab w) :
    Calls Tryd.prog 40 #[.string (tb m), .string (tb n)] w fun e w' => e = .returned (.string (tb r)) ∧ Below w.heap.size w w' := by
  subst hr
  refine mul40 _ _ w (tb (m * n)) (toldErr (m * n)) (fun W hW => ?_) htab
  have h := natMul_any (tb m) (tb n) W (tb_size m hm) (tb_size n hn) hW
  simp only [(tb_right m hm).1, (tb_right n hn).1, (tb_right m hm).2, (tb_right n hn).2, Bool.and_self, if_true] at h
  exact h
theorem subN (m n r : Nat) (w : World) (hm : m < 10 ^ 600) (hn : n < 10 ^ 600) (hr : m = r + n) (htab : Tab w) :
    Calls Tryd.prog 19 #[.string (tb m), .string (tb n)] w fun e w' => e = .returned (.tuple #[.string (tb r), .int .i64 0]) ∧ Below w.heap.size w w' := by
  have h := natSub_any (tb m) (tb n) w (tb_size m hm) (tb_size n hn) htab
  unfold subText subErr at h
  simp only [(tb_right m hm).1, (tb_right n hn).1, (tb_right m hm).2, (tb_right n hn).2, Bool.and_self, if_true] at h
  rw [if_neg (by omega), if_neg (by omega), show m - n = r by omega] at h
  have e : Lib.decDigits r = toldText r := (if_pos (show r < 10 ^ 600 by omega)).symm
  rw [e] at h
  exact h
theorem cmpTN (m n : Nat) (c : Int) (w : World) (hm : m < 10 ^ 600) (hn : n < 10 ^ 600) (hc : c = Cub.cmpN m n) :
    Calls Tryd.prog 23 #[.string (tb m), .string (tb n)] w fun e w' => e = .returned (.tuple #[.int .i64 c, .int .i64 0]) ∧ Below w.heap.size w w' := by
  subst hc
  have h := natCmp_any (tb m) (tb n) w (tb_size m hm) (tb_size n hn)
  unfold cmpVal cmpErr at h
  simp only [(tb_right m hm).1, (tb_right n hn).1, (tb_right m hm).2, (tb_right n hn).2, Bool.and_self, if_true] at h
  exact h
end Go.Proofs.YthcihkgellginaaDoor
