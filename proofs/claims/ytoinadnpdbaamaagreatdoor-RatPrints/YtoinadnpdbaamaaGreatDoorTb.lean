/- Texts of numbers: plain facts, gathered. -/
import Derived.Test.YtoinadnpdbaamaaGreatDoorLen
import Derived.Test.YtoinadnpdbaamaaGreatDoorPlain
import Derived.Lib.AppendIntMem
namespace Go.Proofs.YtoinadnpdbaamaaGreatDoor
open Go.RowKit

theorem Tryz.info5 : (Tryz.prog.info? 5).map (fun i => (i.zero, i.size, i.bytes)) = some (some (.int .u8 0), 1, 1) := by kernel_rfl
theorem byteCells_snoc (l : List UInt8) (c : Nat) (hc : c < 10) : Lib.byteCells l ++ [.int .u8 (48 + (c : Int))] = Lib.byteCells (l ++ [UInt8.ofNat (48 + c)]) := by
  rw [Lib.byteCells_append]
  congr 1
  simp only [Lib.byteCells, List.map_cons, List.map_nil]
  rw [Cub.toNat_dig c hc]; rfl
/-- What is told of a number: its text, or ErrLarge (7). -/
def toldText (n : Nat) : List UInt8 := if n < 10 ^ 600 then Lib.decDigits n else []
def toldErr (n : Nat) : Int := if n < 10 ^ 600 then 0 else 7
theorem len600 (n : Nat) : Lib.nDigits n ≤ 600 ↔ n < 10 ^ 600 := by
  rw [← Lib.decDigits_length]; exact Cub.dec_len_lt n 600 (by decide)
theorem right_digs {s : ByteArray} (h : Cub.rightB s.data.toList = true) : Cub.digs s.data.toList ∧ s.size ≤ 600 := by
  obtain ⟨h1, h2⟩ := (Cub.rightB_iff _).1 h
  exact ⟨h1.1, by rw [list_len] at h2; exact h2⟩
theorem mk_list (l : List UInt8) : (⟨l.toArray⟩ : ByteArray).data.toList = l := rfl
theorem toldText_pos (n : Nat) (h : n < 10 ^ 600) : toldText n = Lib.decDigits n := by
  unfold toldText; rw [if_pos h]
theorem toldText_neg (n : Nat) (h : ¬ n < 10 ^ 600) : toldText n = [] := by
  unfold toldText; rw [if_neg h]
/-- The text of a number, or the empty one where it is too large. -/
def tb (n : Nat) : ByteArray := ⟨(toldText n).toArray⟩
theorem tb_list (n : Nat) (h : n < 10 ^ 600) : (tb n).data.toList = Lib.decDigits n := by
  exact (mk_list (toldText n)).trans (toldText_pos n h)
theorem tb_right (n : Nat) (h : n < 10 ^ 600) : Cub.rightB (tb n).data.toList = true ∧ Cub.dval (tb n).data.toList = n := by
  rw [tb_list n h]
  refine ⟨(Cub.rightB_iff _).2 ⟨Cub.isNat_dec n, ?_⟩, Cub.dval_dec n⟩
  rw [Lib.decDigits_length]; exact (len600 n).2 h
theorem tb_empty (n : Nat) (h : ¬ n < 10 ^ 600) : (tb n).toList.isEmpty = true := by
  rw [Lib.toList_data]
  unfold tb
  rw [mk_list, toldText_neg n h]; rfl
theorem tb_full (n : Nat) (h : n < 10 ^ 600) : (tb n).toList.isEmpty = false := by
  rw [Lib.toList_data, tb_list n h]
  cases e : Lib.decDigits n with
  | nil => exact absurd e (Cub.dec_ne_nil n)
  | cons a t => rfl
theorem tb_of {s : ByteArray} (h : Cub.rightB s.data.toList = true) : ∃ n, n < 10 ^ 600 ∧ s = tb n := by
  obtain ⟨h1, h2⟩ := (Cub.rightB_iff _).1 h
  have h3 := Nat.lt_of_lt_of_le (Cub.dval_lt h1.1) (Nat.pow_le_pow_right (n := 10) (by decide) h2)
  refine ⟨Cub.dval s.data.toList, h3, ?_⟩
  have e : s.data.toList = (tb (Cub.dval s.data.toList)).data.toList := by rw [tb_list _ h3]; exact (Cub.dec_dval _ _ rfl h1).symm
  apply ByteArray.ext
  exact Array.ext' e
theorem tb_size (n : Nat) (h : n < 10 ^ 600) : (tb n).size ≤ maxLen := by
  have h1 := ((Cub.rightB_iff _).1 (tb_right n h).1).2
  rw [list_len] at h1
  unfold maxLen; omega
def val (s : ByteArray) : Nat := Cub.dval s.data.toList
theorem right_val {s : ByteArray} (h : Cub.rightB s.data.toList = true) : val s < 10 ^ 600 := by
  obtain ⟨h1, h2⟩ := (Cub.rightB_iff _).1 h
  have h3 := Nat.lt_of_lt_of_le (Cub.dval_lt h1.1) (Nat.pow_le_pow_right (n := 10) (by decide) h2)
  unfold val
  exact h3
theorem pow_split (a b c : Nat) (h : c = a + b) : (10 : Nat) ^ c = 10 ^ a * 10 ^ b := by subst h; exact Nat.pow_add ..
theorem pow_nine (c k : Nat) (h : c ≤ 9 * k) : (10 : Nat) ^ c ≤ 1000000000 ^ k := by
  have e : (1000000000 : Nat) ^ k = 10 ^ (9 * k) := by rw [Nat.pow_mul]
  rw [e]; exact Nat.pow_le_pow_right (by decide) h
theorem mul_lt_pow (a b d e : Nat) (he : e = d + d) (ha : a < 10 ^ d) (hb : b < 10 ^ d) : a * b < 10 ^ e := by
  subst he
  rw [Nat.pow_add]
  exact Nat.mul_lt_mul'' ha hb
theorem dec_zero : Lib.decDigits 0 = [48] := by rw [Lib.decDigits]; simp
theorem zero_text {s : ByteArray} (h : Cub.rightB s.data.toList = true) (h0 : val s = 0) : s.data.toList = [48] := by
  have h1 := Cub.dec_dval _ _ rfl ((Cub.rightB_iff _).1 h).1
  have h2 : Cub.dval s.data.toList = 0 := h0
  rw [h2] at h1
  rw [← h1]; exact dec_zero
theorem zero_val {s : ByteArray} (h : s.data.toList = [48]) : val s = 0 := by
  unfold val; rw [h]; decide
end Go.Proofs.YtoinadnpdbaamaaGreatDoor
