/- The document's own Sum and Prod of a list of texts. -/
import Derived.Test.YthcihkgellginabDoorListMath
namespace Go.Proofs.YthcihkgellginabDoor
open Go.RowKit

theorem InMem.later {w w' : World} {a : Option Addr} {ss : List ByteArray} (h : InMem w a ss) (hb : Below w.heap.size w w') : InMem w' a ss := fun i hi => by
  obtain ⟨b, o, e, hc⟩ := h i hi
  exact ⟨b, o, e, (hb.cell (World.block_lt_of_cell? _ _ hc)).trans hc⟩

/-- The text of a number, of any size. -/
def nb (n : Nat) : ByteArray := ⟨(Lib.decDigits n).toArray⟩
theorem nb_list (n : Nat) : (nb n).data.toList = Lib.decDigits n := rfl
theorem nb_val (n : Nat) : Cub.dval (nb n).data.toList = n := Cub.dval_dec n
theorem nb_digs (n : Nat) : Cub.digs (nb n).data.toList := (Cub.isNat_dec n).1
theorem nb_size (n k : Nat) (hk : 1 ≤ k) (h : n < 10 ^ k) : (nb n).size ≤ k := by
  rw [← list_len, nb_list]; exact (Cub.dec_len_lt n k hk).2 h
theorem right_dig2 {s : ByteArray} (h : Cub.rightB s.data.toList = true) : Cub.digs s.data.toList ∧ s.size ≤ 600 := by
  obtain ⟨h1, h2⟩ := (Cub.rightB_iff _).1 h
  rw [list_len] at h2
  exact ⟨h1.1, h2⟩
theorem nb_zero : (⟨#[48]⟩ : ByteArray) = nb 0 := by unfold nb; rw [dec_zero]

theorem pos600 (k : Nat) : 0 < 10 ^ k := Nat.pow_pos (by decide)
theorem one600 (k : Nat) (hk : k ≠ 0) : 1 < 10 ^ k := Nat.one_lt_pow hk (by decide)
theorem toldErr_pos (n : Nat) (h : n < 10 ^ 600) : toldErr n = 0 := by unfold toldErr; rw [if_pos h]
theorem toldErr_neg (n : Nat) (h : ¬ n < 10 ^ 600) : toldErr n = 7 := by unfold toldErr; rw [if_neg h]
theorem nb_one : (⟨#[49]⟩ : ByteArray) = nb 1 := by unfold nb; rw [Lib.decDigits_one (by decide)]; rfl
theorem nb_600 (n : Nat) : (nb n).size ≤ 600 ↔ n < 10 ^ 600 := by
  rw [← list_len, nb_list, Lib.decDigits_length]; exact len600 n
theorem lt620 (n d e : Nat) (h : d ≤ e) (hn : n < 10 ^ d) : n < 10 ^ e := Nat.lt_of_lt_of_le hn (Nat.pow_le_pow_right (by decide) h)
theorem told_nb (n : Nat) (h : n < 10 ^ 600) : (⟨(toldText n).toArray⟩ : ByteArray) = nb n := by rw [toldText_pos n h]; rfl
theorem told_zero : toldText 0 = [48] ∧ toldErr 0 = 0 := by
  have h := pos600 600
  constructor
  · rw [toldText_pos 0 h, dec_zero]
  · unfold toldErr; rw [if_pos h]

end Go.Proofs.YthcihkgellginabDoor
