/- nat.allRight, nat.Prod where a text is not right, and the law's own add and mul. -/
import Derived.Test.YthcihkgellginabDoorNatOps
import Derived.Test.YthcihkgellginabDoorKnown
namespace Go.Proofs.YthcihkgellginabDoor
open Go.RowKit

theorem mk_list (l : List UInt8) : (⟨l.toArray⟩ : ByteArray).data.toList = l := rfl
theorem toldText_pos (n : Nat) (h : n < 10 ^ 600) : toldText n = Lib.decDigits n := by
  unfold toldText; rw [if_pos h]
theorem toldText_neg (n : Nat) (h : ¬ n < 10 ^ 600) : toldText n = [] := by
  unfold toldText; rw [if_neg h]
/-- The text of a number, or the empty one where it is too large. -/
def tb (n : Nat) : ByteArray := ⟨(toldText n).toArray⟩
theorem tb_list (n : Nat) (h : n < 10 ^ 600) : (tb n).data.toList = Lib.decDigits n := by
  exact (mk_list (toldText n)).trans (toldText_pos n h)
theorem tb_right (n : Nat) (h : n < 10 ^ 600) : Cub.rightB (tb n).data.toList = true ∧ Cub.dval (tb n).data.toList = n := by
  rw [tb_list n h]
  refine ⟨(Cub.rightB_iff _).2 ⟨Cub.isNat_dec n, ?_⟩, Cub.dval_dec n⟩
  rw [Lib.decDigits_length]; exact (len600 n).2 h
theorem tb_empty (n : Nat) (h : ¬ n < 10 ^ 600) : (tb n).toList.isEmpty = true := by
  rw [Lib.toList_data]
  unfold tb
  rw [mk_list, toldText_neg n h]; rfl
theorem tb_full (n : Nat) (h : n < 10 ^ 600) : (tb n).toList.isEmpty = false := by
  rw [Lib.toList_data, tb_list n h]
  cases e : Lib.decDigits n with
  | nil => exact absurd e (Cub.dec_ne_nil n)
  | cons a t => rfl
theorem tb_of {s : ByteArray} (h : Cub.rightB s.data.toList = true) : ∃ n, n < 10 ^ 600 ∧ s = tb n := by
  obtain ⟨h1, h2⟩ := (Cub.rightB_iff _).1 h
  have h3 := Nat.lt_of_lt_of_le (Cub.dval_lt h1.1) (Nat.pow_le_pow_right (n := 10) (by decide) h2)
  refine ⟨Cub.dval s.data.toList, h3, ?_⟩
  have e : s.data.toList = (tb (Cub.dval s.data.toList)).data.toList := by rw [tb_list _ h3]; exact (Cub.dec_dval _ _ rfl h1).symm
  apply ByteArray.ext
  exact Array.ext' e
theorem tb_size (n : Nat) (h : n < 10 ^ 600) : (tb n).size ≤ maxLen := by
  have h1 := ((Cub.rightB_iff _).1 (tb_right n h).1).2
  rw [list_len] at h1
  unfold maxLen; omega

theorem add39 (s t : ByteArray) (w : World) (X : ByteArray) (E : Int) (h : ∀ W, Tab W → Calls Tryd.prog 23 #[.string s, .string t] W fun e w' => e = .returned (.tuple #[.string X, .int .i64 E]) ∧ Below W.heap.size W w') (htab : Tab w) :
    Calls Tryd.prog 11 #[.string s, .string t] w fun e w' => e = .returned (.string X) ∧ Below w.heap.size w w' := by
  have HC := hide h
  have HT := hide htab
  clear h htab
  go_enter Tryd.func11, Tryd.ntmps11
  go_wp2_with (go_at_call 23; refine (unhide HC _ (unhide HT)).mono ?_; rintro e w2 ⟨rfl, hb2⟩)
  go_ret
  exact ⟨rfl, hb2⟩
theorem mul40 (s t : ByteArray) (w : World) (X : ByteArray) (E : Int) (h : ∀ W, Tab W → Calls Tryd.prog 28 #[.string s, .string t] W fun e w' => e = .returned (.tuple #[.string X, .int .i64 E]) ∧ Below W.heap.size W w') (htab : Tab w) :
    Calls Tryd.prog 12 #[.string s, .string t] w fun e w' => e = .returned (.string X) ∧ Below w.heap.size w w' := by
  have HC := hide h
  have HT := hide htab
  clear h htab
  go_enter Tryd.func12, Tryd.ntmps12
  go_wp2_with (go_at_call 28; refine (unhide HC _ (unhide HT)).mono ?_; rintro e w2 ⟨rfl, hb2⟩)
  go_ret
  exact ⟨rfl, hb2⟩

/-- The law's add and mul of two numbers' texts; Sub, Cmp likewise. -/
theorem addN (m n r : Nat) (w : World) (hm : m < 10 ^ 600) (hn : n < 10 ^ 600) (hr : r = m + n) (htab : Tab w) :
    Calls Tryd.prog 11 #[.string (tb m), .string (tb n)] w fun e w' => e = .returned (.string (tb r)) ∧ Below w.heap.size w w' := by
  subst hr
  refine add39 _ _ w (tb (m + n)) (toldErr (m + n)) (fun W hW => ?_) htab
  have h := natAdd_any (tb m) (tb n) W (tb_size m hm) (tb_size n hn) hW
  simp only [(tb_right m hm).1, (tb_right n hn).1, (tb_right m hm).2, (tb_right n hn).2, Bool.and_self, if_true] at h
  exact h
theorem mulN (m n r : Nat) (w : World) (hm : m < 10 ^ 600) (hn : n < 10 ^ 600) (hr : r = m * n) (htab : Tab w) :
    Calls Tryd.prog 12 #[.string (tb m), .string (tb n)] w fun e w' => e = .returned (.string (tb r)) ∧ Below w.heap.size w w' := by
  subst hr
  refine mul40 _ _ w (tb (m * n)) (toldErr (m * n)) (fun W hW => ?_) htab
  have h := natMul_any (tb m) (tb n) W (tb_size m hm) (tb_size n hn) hW
  simp only [(tb_right m hm).1, (tb_right n hn).1, (tb_right m hm).2, (tb_right n hn).2, Bool.and_self, if_true] at h
  exact h
theorem cmpTN (m n : Nat) (c : Int) (w : World) (hm : m < 10 ^ 600) (hn : n < 10 ^ 600) (hc : c = Cub.cmpN m n) :
    Calls Tryd.prog 10 #[.string (tb m), .string (tb n)] w fun e w' => e = .returned (.tuple #[.int .i64 c, .int .i64 0]) ∧ Below w.heap.size w w' := by
  subst hc
  have h := natCmp_any (tb m) (tb n) w (tb_size m hm) (tb_size n hn)
  unfold cmpVal cmpErr at h
  simp only [(tb_right m hm).1, (tb_right n hn).1, (tb_right m hm).2, (tb_right n hn).2, Bool.and_self, if_true] at h
  exact h
end Go.Proofs.YthcihkgellginabDoor
