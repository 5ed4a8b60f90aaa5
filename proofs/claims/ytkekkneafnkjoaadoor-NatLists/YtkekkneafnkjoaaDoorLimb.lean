/- Plain facts on numbers cut into limbs of a base, the least first. No program is named here. -/
import Derived.Test.YtkekkneafnkjoaaDoorMath
namespace Cub

/-- The number of limbs, the least ahead. -/
def lval (B : Nat) : List Nat → Nat
  | [] => 0
  | x :: l => x + B * lval B l

def limbs (B : Nat) (l : List Nat) : Prop := ∀ x ∈ l, x < B

theorem lval_append (B : Nat) (a b : List Nat) : lval B (a ++ b) = lval B a + B ^ a.length * lval B b := by
  induction a with
  | nil => simp [lval]
  | cons x a ih =>
    simp only [List.cons_append, lval, ih, List.length_cons, Nat.pow_succ]
    rw [Nat.mul_add, ← Nat.mul_assoc, Nat.mul_comm B (B ^ a.length)]; omega

theorem lval_snoc (B : Nat) (a : List Nat) (x : Nat) : lval B (a ++ [x]) = lval B a + B ^ a.length * x := by
  rw [lval_append]; simp [lval]

theorem limbs_append {B : Nat} {a b : List Nat} : limbs B (a ++ b) ↔ limbs B a ∧ limbs B b := by
  unfold limbs
  constructor
  · intro h; exact ⟨fun c hc => h c (List.mem_append_left _ hc), fun c hc => h c (List.mem_append_right _ hc)⟩
  · rintro ⟨h1, h2⟩ c hc
    rcases List.mem_append.1 hc with h | h
    · exact h1 c h
    · exact h2 c h

theorem lval_lt {B : Nat} {l : List Nat} (h : limbs B l) : lval B l < B ^ l.length := by
  induction l with
  | nil => simp [lval]
  | cons x l ih =>
    have hx := h x (by simp)
    have := ih (fun d hd => h d (List.mem_cons_of_mem _ hd))
    simp only [lval, List.length_cons, Nat.pow_succ]
    have h2 : B * (lval B l + 1) ≤ B * B ^ l.length := Nat.mul_le_mul_left _ this
    rw [Nat.mul_add] at h2
    rw [Nat.mul_comm (B ^ l.length)]; omega

/-- In its one form: limbs below the base, the last one not 0. -/
def normal (B : Nat) (l : List Nat) : Prop := limbs B l ∧ l.getLast? ≠ some 0

theorem normal_nil (B : Nat) : normal B [] := ⟨fun _ h => (by cases h), by simp⟩

theorem normal_ge {B : Nat} {l : List Nat} (h : normal B l) (hne : l ≠ []) : B ^ (l.length - 1) ≤ lval B l := by
  rcases List.eq_nil_or_concat l with h0 | ⟨t, c, rfl⟩
  · exact absurd h0 hne
  · rw [List.concat_eq_append] at *
    have hc : c ≠ 0 := by intro e; apply h.2; simp [e]
    rw [lval_snoc]
    have : B ^ t.length * 1 ≤ B ^ t.length * c := Nat.mul_le_mul_left _ (by omega)
    simp; omega

theorem normal_zero {B : Nat} {l : List Nat} (h : normal B l) (hB : 0 < B) : lval B l = 0 ↔ l = [] := by
  constructor
  · intro e
    by_cases hne : l = []
    · exact hne
    · have := normal_ge h hne
      have hp : 0 < B ^ (l.length - 1) := Nat.pow_pos hB
      omega
  · intro e; subst e; rfl

/-- One number has one normal list of limbs. -/
theorem lval_inj {B : Nat} (hB : 0 < B) : ∀ {a b : List Nat}, normal B a → normal B b → lval B a = lval B b → a = b := by
  have tail : ∀ {x : Nat} {l : List Nat}, normal B (x :: l) → normal B l := by
    rintro x l ⟨h1, h2⟩
    refine ⟨fun c hc => h1 c (List.mem_cons_of_mem _ hc), ?_⟩
    cases l with
    | nil => simp
    | cons y l => simpa using h2
  intro a
  induction a with
  | nil => intro b _ hb e; exact ((normal_zero hb hB).1 e.symm).symm
  | cons x a ih =>
    intro b ha hb e
    cases b with
    | nil => exact (normal_zero ha hB).1 e
    | cons y b =>
      have hx := ha.1 x (by simp)
      have hy := hb.1 y (by simp)
      simp only [lval] at e
      have e1 : x = y := by
        have := congrArg (· % B) e
        simpa [Nat.add_mul_mod_self_left, Nat.mod_eq_of_lt hx, Nat.mod_eq_of_lt hy] using this
      subst e1
      have e2 : lval B a = lval B b := Nat.eq_of_mul_eq_mul_left hB (by omega)
      rw [ih (tail ha) (tail hb) e2]

/-- Noughts at the top left out. -/
def trimN (l : List Nat) : List Nat := (l.reverse.dropWhile (· == 0)).reverse

theorem trimN_snoc_zero (l : List Nat) : trimN (l ++ [0]) = trimN l := by unfold trimN; simp
theorem trimN_snoc (l : List Nat) (x : Nat) (h : x ≠ 0) : trimN (l ++ [x]) = l ++ [x] := by
  unfold trimN; simp [h]

theorem lval_trim (B : Nat) : ∀ (n : Nat) (l : List Nat), l.length = n → lval B (trimN l) = lval B l ∧ (limbs B l → normal B (trimN l)) ∧ ∃ k, l = trimN l ++ List.replicate k 0 := by
  intro n
  induction n with
  | zero => intro l e; have := List.length_eq_zero_iff.1 e; subst this; exact ⟨rfl, fun _ => normal_nil B, 0, rfl⟩
  | succ n ih =>
    intro l e
    rcases List.eq_nil_or_concat l with h0 | ⟨t, c, rfl⟩
    · subst h0; simp at e
    · rw [List.concat_eq_append] at *
      by_cases hc : c = 0
      · subst hc
        rw [trimN_snoc_zero]
        obtain ⟨h1, h2, k, h3⟩ := ih t (by simpa using e)
        refine ⟨by rw [h1, lval_snoc]; simp, fun h => h2 (limbs_append.1 h).1, k + 1, ?_⟩
        rw [List.replicate_succ', ← List.append_assoc, ← h3]
      · rw [trimN_snoc t c hc]
        exact ⟨rfl, fun h => ⟨h, by simpa using hc⟩, 0, by simp⟩

end Cub
