/- Sums and products of lists of texts, plain; a list of texts in memory. -/
import Derived.Test.YthcihkgellginaaDoorRingA
import Derived.Test.YthcihkgellginaaDoorRefOps
namespace Go.Proofs.YthcihkgellginaaDoor
open Go.RowKit

def val (s : ByteArray) : Nat := Cub.dval s.data.toList
def sumK (ss : List ByteArray) (k : Nat) : Nat := ((ss.take k).map val).sum
def mulAll (l : List Nat) : Nat := l.foldr (· * ·) 1
def prodK (ss : List ByteArray) (k : Nat) : Nat := mulAll ((ss.take k).map val)

theorem mulAll_append (l : List Nat) (x : Nat) : mulAll (l ++ [x]) = mulAll l * x := by
  induction l with
  | nil => simp [mulAll]
  | cons a t ih =>
    have : mulAll (a :: t ++ [x]) = a * mulAll (t ++ [x]) := rfl
    rw [this, ih]
    show a * (mulAll t * x) = a * mulAll t * x
    rw [Nat.mul_assoc]
theorem sumK_zero (ss : List ByteArray) : sumK ss 0 = 0 := rfl
theorem prodK_zero (ss : List ByteArray) : prodK ss 0 = 1 := rfl
theorem take_succ' (ss : List ByteArray) (k : Nat) (hk : k < ss.length) : ss.take (k + 1) = ss.take k ++ [ss[k]] := by
  rw [List.take_add_one, List.getElem?_eq_getElem hk]; rfl
theorem sumK_succ (ss : List ByteArray) (k : Nat) (hk : k < ss.length) : sumK ss (k + 1) = sumK ss k + val ss[k] := by
  unfold sumK
  rw [take_succ' ss k hk, List.map_append, List.sum_append]; simp only [List.map_cons, List.map_nil, List.sum_cons, List.sum_nil, Nat.add_zero]
theorem prodK_succ (ss : List ByteArray) (k : Nat) (hk : k < ss.length) : prodK ss (k + 1) = prodK ss k * val ss[k] := by
  unfold prodK
  rw [take_succ' ss k hk, List.map_append]
  exact mulAll_append _ _
theorem right_at {ss : List ByteArray} (h : allRight ss = true) (k : Nat) (hk : k < ss.length) : Cub.rightB ss[k].data.toList = true :=
  List.all_eq_true.1 h ss[k] (List.getElem_mem hk)
theorem right_val {s : ByteArray} (h : Cub.rightB s.data.toList = true) : val s < 10 ^ 600 := by
  obtain ⟨h1, h2⟩ := (Cub.rightB_iff _).1 h
  have h3 := Nat.lt_of_lt_of_le (Cub.dval_lt h1.1) (Nat.pow_le_pow_right (n := 10) (by decide) h2)
  unfold val
  exact h3
theorem sumK_lt {ss : List ByteArray} {M : Nat} (h : ∀ i (hi : i < ss.length), val ss[i] < M) : ∀ k, k ≤ ss.length → sumK ss k ≤ k * M
  | 0, _ => by rw [sumK_zero, Nat.zero_mul]; exact Nat.le_refl _
  | k + 1, hk => by
    rw [sumK_succ ss k (by omega), Nat.succ_mul]
    exact Nat.add_le_add (sumK_lt h k (by omega)) (Nat.le_of_lt (h k (by omega)))
theorem mul_lt_of {k m M : Nat} (h : k < m) (hM : 0 < M) : k * M < m * M := Nat.mul_lt_mul_of_pos_right h hM
theorem pow_split (a b c : Nat) (h : c = a + b) : (10 : Nat) ^ c = 10 ^ a * 10 ^ b := by subst h; exact Nat.pow_add ..
theorem pow_nine (c k : Nat) (h : c ≤ 9 * k) : (10 : Nat) ^ c ≤ 1000000000 ^ k := by
  have e : (1000000000 : Nat) ^ k = 10 ^ (9 * k) := by rw [Nat.pow_mul]
  rw [e]; exact Nat.pow_le_pow_right (by decide) h
theorem sum_lt_of {ss : List ByteArray} (d c e : Nat) (k : Nat) (he : e = c + d) (h : ∀ i (hi : i < ss.length), val ss[i] < 10 ^ d) (hk : k ≤ ss.length) (hm : k < 10 ^ c) : sumK ss k < 10 ^ e := by
  subst he
  have h1 := sumK_lt h k hk
  have h2 := mul_lt_of hm (M := 10 ^ d) (Nat.pow_pos (by decide))
  rw [← Nat.pow_add] at h2
  exact Nat.lt_of_le_of_lt h1 h2
theorem sumK_620 {ss : List ByteArray} (h : allRight ss = true) (k : Nat) (hk : k ≤ ss.length) (hm : k ≤ 9223372036854775807) : sumK ss k < 10 ^ 620 :=
  sum_lt_of 600 20 620 k rfl (fun i hi => right_val (right_at h i hi)) hk (by omega)
theorem mul_lt_pow (a b d e : Nat) (he : e = d + d) (ha : a < 10 ^ d) (hb : b < 10 ^ d) : a * b < 10 ^ e := by
  subst he
  rw [Nat.pow_add]
  exact Nat.mul_lt_mul'' ha hb

/-- No text is that of 0. -/
def NoZero (ss : List ByteArray) : Prop := ∀ i (hi : i < ss.length), val ss[i] ≠ 0
theorem prodK_grow {ss : List ByteArray} (h : NoZero ss) (k : Nat) : ∀ d, k + d ≤ ss.length → prodK ss k ≤ prodK ss (k + d)
  | 0, _ => Nat.le_refl _
  | d + 1, hd => by
    have h1 := prodK_grow h k d (by omega)
    rw [← Nat.add_assoc, prodK_succ ss (k + d) (by omega)]
    have h2 := h (k + d) (by omega)
    exact Nat.le_trans h1 (Nat.le_mul_of_pos_right _ (by omega))
theorem prodK_all_le {ss : List ByteArray} (h : NoZero ss) (k : Nat) (hk : k ≤ ss.length) : prodK ss k ≤ prodK ss ss.length := by
  have h1 := prodK_grow h k (ss.length - k) (by omega)
  rw [show k + (ss.length - k) = ss.length by omega] at h1
  exact h1
theorem prodK_stay {ss : List ByteArray} (k : Nat) (h0 : prodK ss k = 0) : ∀ d, k + d ≤ ss.length → prodK ss (k + d) = 0
  | 0, _ => h0
  | d + 1, hd => by
    rw [← Nat.add_assoc, prodK_succ ss (k + d) (by omega), prodK_stay k h0 d (by omega), Nat.zero_mul]
theorem prodK_none {ss : List ByteArray} (i : Nat) (hi : i < ss.length) (h : val ss[i] = 0) : prodK ss ss.length = 0 := by
  have h1 : prodK ss (i + 1) = 0 := by rw [prodK_succ ss i hi, h, Nat.mul_zero]
  have h2 := prodK_stay (i + 1) h1 (ss.length - (i + 1)) (by omega)
  rw [show i + 1 + (ss.length - (i + 1)) = ss.length by omega] at h2
  exact h2
theorem dec_zero : Lib.decDigits 0 = [48] := by rw [Lib.decDigits]; simp
theorem zero_text {s : ByteArray} (h : Cub.rightB s.data.toList = true) (h0 : val s = 0) : s.data.toList = [48] := by
  have h1 := Cub.dec_dval _ _ rfl ((Cub.rightB_iff _).1 h).1
  have h2 : Cub.dval s.data.toList = 0 := h0
  rw [h2] at h1
  rw [← h1]; exact dec_zero
theorem zero_val {s : ByteArray} (h : s.data.toList = [48]) : val s = 0 := by
  unfold val; rw [h]; decide

def sumText (ss : List ByteArray) : List UInt8 := if allRight ss = true then toldText (sumK ss ss.length) else []
def sumErr (ss : List ByteArray) : Int := if allRight ss = true then toldErr (sumK ss ss.length) else 3
def prodText (ss : List ByteArray) : List UInt8 := if allRight ss = true then toldText (prodK ss ss.length) else []
def prodErr (ss : List ByteArray) : Int := if allRight ss = true then toldErr (prodK ss ss.length) else 3

/-- A list of texts lies there. -/
def InMem (w : World) (a : Option Addr) (ss : List ByteArray) : Prop := ∀ i (hi : i < ss.length), ∃ b o, a = some ⟨b, o, none⟩ ∧ w.cell? ⟨b, o + i, none⟩ = some (.string ss[i])
end Go.Proofs.YthcihkgellginaaDoor
