/- Plain facts: how decimal digits are cut into limbs of nine. -/
import Derived.Test.YtkekkneafnkjoaaDoorLimb
namespace Cub

theorem pow9 (m : Nat) : 10 ^ (9 * m) = 1000000000 ^ m := by rw [Nat.pow_mul]

/-- One limb more: the digits from f on are those of the limb, then those from e on. -/
theorem dval_cut (l : List UInt8) (m e f : Nat) (he : e + 9 * m = l.length) (hf : f ≤ e) :
    dval (l.drop f) = dval (l.drop e) + 1000000000 ^ m * dval ((l.drop f).take (e - f)) := by
  have h1 : l.drop f = (l.drop f).take (e - f) ++ l.drop e := by
    have := List.take_append_drop (e - f) (l.drop f)
    rw [List.drop_drop] at this
    rw [show f + (e - f) = e by omega] at this
    exact this.symm
  rw [← pow9]
  have hl : (l.drop e).length = 9 * m := by rw [List.length_drop]; omega
  rw [h1, dval_append, hl, ← h1, Nat.mul_comm, Nat.add_comm]

theorem digs_sub {l : List UInt8} (h : digs l) (f k : Nat) : digs ((l.drop f).take k) := fun c hc => h c (List.mem_of_mem_drop (List.mem_of_mem_take hc))

theorem seg_lt {l : List UInt8} (h : digs l) (f k : Nat) (hk : k ≤ 9) : dval ((l.drop f).take k) < 1000000000 := by
  have h1 := dval_lt (digs_sub h f k)
  have h2 : ((l.drop f).take k).length ≤ 9 := by rw [List.length_take]; omega
  have h3 : 10 ^ ((l.drop f).take k).length ≤ 10 ^ 9 := Nat.pow_le_pow_right (by decide) h2
  omega

theorem seg_lt' {l : List UInt8} (h : digs l) (f k : Nat) (hk : k ≤ 8) : dval ((l.drop f).take k) < 100000000 := by
  have h1 := dval_lt (digs_sub h f k)
  have h2 : ((l.drop f).take k).length ≤ 8 := by rw [List.length_take]; omega
  have h3 : 10 ^ ((l.drop f).take k).length ≤ 10 ^ 8 := Nat.pow_le_pow_right (by decide) h2
  omega

theorem seg_succ (l : List UInt8) (f i : Nat) (hf : f ≤ i) (hi : i < l.length) :
    dval ((l.drop f).take (i + 1 - f)) = dval ((l.drop f).take (i - f)) * 10 + (l[i].toNat - 48) := by
  rw [show i + 1 - f = (i - f) + 1 by omega, List.take_succ_eq_append_getElem (by rw [List.length_drop]; omega), dval_snoc]
  have : (l.drop f)[i - f]'(by rw [List.length_drop]; omega) = l[i] := by
    rw [List.getElem_drop]; congr 1; omega
  rw [this, Nat.mul_comm]

/-- The outer step. -/
theorem cut_step (l : List UInt8) (L : List Nat) (e f : Nat) (he : e + 9 * L.length = l.length) (hf : f = e - 9) (hd : digs l) (hL : limbs 1000000000 L)
    (hv : lval 1000000000 L = dval (l.drop e)) :
    limbs 1000000000 (L ++ [dval ((l.drop f).take (e - f))]) ∧ lval 1000000000 (L ++ [dval ((l.drop f).take (e - f))]) = dval (l.drop f) := by
  refine ⟨limbs_append.2 ⟨hL, fun x hx => ?_⟩, ?_⟩
  · rw [List.mem_singleton] at hx; subst hx; exact seg_lt hd f _ (by omega)
  · rw [lval_snoc, hv, dval_cut l L.length e f he (by omega)]
end Cub
