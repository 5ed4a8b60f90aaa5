/- Plain facts on decimal texts, limbs and roots. No program is named here. -/
import Derived.Lib.ItoaNum
namespace Cub

/-- The number of decimal digits, the first ahead. -/
def dval (l : List UInt8) : Nat := l.foldl (fun n c => 10 * n + (c.toNat - 48)) 0

theorem dval_nil : dval [] = 0 := rfl
theorem dval_snoc (l : List UInt8) (c : UInt8) : dval (l ++ [c]) = 10 * dval l + (c.toNat - 48) := by
  unfold dval; rw [List.foldl_append]; rfl

theorem foldl_val (l : List UInt8) : ∀ a : Nat, l.foldl (fun n c => 10 * n + (c.toNat - 48)) a = a * 10 ^ l.length + dval l := by
  unfold dval
  induction l with
  | nil => intro a; simp
  | cons c l ih =>
    intro a
    simp only [List.foldl_cons, List.length_cons]
    rw [ih, ih (10 * 0 + (c.toNat - 48)), Nat.pow_succ]
    rw [Nat.add_mul]
    have : 10 * a * 10 ^ l.length = a * (10 ^ l.length * 10) := by
      rw [Nat.mul_comm 10 a, Nat.mul_assoc, Nat.mul_comm 10]
    rw [this]
    simp only [Nat.mul_zero, Nat.zero_add]
    rw [Nat.add_assoc]

theorem dval_append (a b : List UInt8) : dval (a ++ b) = dval a * 10 ^ b.length + dval b := by
  have := foldl_val b (dval a)
  rw [← this]; unfold dval; rw [List.foldl_append]

theorem dval_cons (c : UInt8) (l : List UInt8) : dval (c :: l) = (c.toNat - 48) * 10 ^ l.length + dval l := by
  have := dval_append [c] l
  simpa [dval] using this

/-- Decimal digits alone. -/
def digs (l : List UInt8) : Prop := ∀ c ∈ l, 48 ≤ c.toNat ∧ c.toNat ≤ 57

theorem digs_nil : digs [] := by intro c h; cases h
theorem digs_append {a b : List UInt8} : digs (a ++ b) ↔ digs a ∧ digs b := by
  unfold digs
  constructor
  · intro h; exact ⟨fun c hc => h c (List.mem_append_left _ hc), fun c hc => h c (List.mem_append_right _ hc)⟩
  · rintro ⟨h1, h2⟩ c hc
    rcases List.mem_append.1 hc with h | h
    · exact h1 c h
    · exact h2 c h

theorem dval_lt {l : List UInt8} (h : digs l) : dval l < 10 ^ l.length := by
  induction l with
  | nil => simp [dval]
  | cons c l ih =>
    have hc := h c (by simp)
    have := ih (fun d hd => h d (List.mem_cons_of_mem _ hd))
    rw [dval_cons, List.length_cons, Nat.pow_succ]
    have h2 : (c.toNat - 48) * 10 ^ l.length ≤ 9 * 10 ^ l.length := Nat.mul_le_mul_right _ (by omega)
    omega

/-- A natural number's one text: digits, at least one, no nought ahead of another one. -/
def isNat (l : List UInt8) : Prop := digs l ∧ l ≠ [] ∧ (l.head? = some 48 → l.length = 1)

theorem ofNat_toNat (c : UInt8) : UInt8.ofNat c.toNat = c := by simp

theorem isNat_pos {l : List UInt8} (h : isNat l) (h2 : 2 ≤ l.length) : 10 ^ (l.length - 1) ≤ dval l := by
  obtain ⟨hd, hne, hz⟩ := h
  cases l with
  | nil => simp at h2
  | cons c t =>
    have hc := hd c (by simp)
    have hc2 : c.toNat ≠ 48 := by
      intro e
      have e2 : c = 48 := by rw [← ofNat_toNat c, e]; rfl
      have := hz (by simp [e2])
      simp at this h2
      rw [this] at h2; simp at h2
    rw [dval_cons]
    have : 1 * 10 ^ t.length ≤ (c.toNat - 48) * 10 ^ t.length := Nat.mul_le_mul_right _ (by omega)
    simp at this ⊢
    omega

theorem isNat_init {l : List UInt8} {c : UInt8} (h : isNat (l ++ [c])) (hl : l ≠ []) : isNat l := by
  obtain ⟨hd, hne, hz⟩ := h
  refine ⟨(digs_append.1 hd).1, hl, fun e => ?_⟩
  cases l with
  | nil => exact absurd rfl hl
  | cons a t =>
    have := hz (by simpa using e)
    simp at this

/-- The text of a text's number is the text. -/
theorem dec_dval : ∀ (n : Nat) (l : List UInt8), l.length = n → isNat l → Go.Lib.decDigits (dval l) = l := by
  intro n
  induction n with
  | zero => intro l e h; exact absurd (List.length_eq_zero_iff.1 e) h.2.1
  | succ n ih =>
    intro l e h
    rcases List.eq_nil_or_concat l with h0 | ⟨t, c, rfl⟩
    · exact absurd h0 h.2.1
    · rw [List.concat_eq_append] at e h ⊢
      have hc := (digs_append.1 h.1).2 c (by simp)
      by_cases ht : t = []
      · subst ht
        have e1 : dval ([] ++ [c]) = c.toNat - 48 := by simp [dval]
        rw [e1, Go.Lib.decDigits_one (by omega)]
        have : 48 + (c.toNat - 48) = c.toNat := by omega
        rw [this, ofNat_toNat]; rfl
      · have hi := isNat_init h ht
        have hl : t.length = n := by simpa using e
        have hpos : 1 ≤ dval t := by
          by_cases h2 : 2 ≤ t.length
          · have := isNat_pos hi h2
            have hp : 1 ≤ 10 ^ (t.length - 1) := Nat.one_le_pow _ _ (by decide)
            omega
          · have h1 : t.length = 1 := by
              cases t with
              | nil => exact absurd rfl ht
              | cons a t => simp at h2 ⊢; omega
            -- one digit, not a nought
            cases t with
            | nil => exact absurd rfl ht
            | cons a t =>
              have : t = [] := by simpa using h1
              subst this
              have ha := (digs_append.1 h.1).1 a (by simp)
              have hne : a.toNat ≠ 48 := by
                intro ea
                have ea2 : a = 48 := by rw [← ofNat_toNat a, ea]; rfl
                have := h.2.2 (by simp [ea2])
                simp at this
              simp [dval]; omega
        rw [dval_snoc, Go.Lib.decDigits, dif_neg (by omega)]
        have d1 : (10 * dval t + (c.toNat - 48)) / 10 = dval t := by omega
        have d2 : (10 * dval t + (c.toNat - 48)) % 10 = c.toNat - 48 := by omega
        rw [d1, d2, ih t hl hi]
        have : 48 + (c.toNat - 48) = c.toNat := by omega
        rw [this, ofNat_toNat]

theorem toNat_dig (k : Nat) (h : k < 10) : (UInt8.ofNat (48 + k)).toNat = 48 + k := by
  rw [UInt8.toNat_ofNat']; omega

/-- The text of a number is a natural number's, and its number is that one. -/
theorem dval_dec (n : Nat) : dval (Go.Lib.decDigits n) = n := by
  induction n using Nat.strongRecOn with
  | _ n ih =>
    by_cases h : n < 10
    · rw [Go.Lib.decDigits_one h, show [UInt8.ofNat (48 + n)] = [] ++ [UInt8.ofNat (48 + n)] from rfl, dval_snoc, toNat_dig n h, dval_nil]; omega
    · rw [Go.Lib.decDigits, dif_neg h, dval_snoc, ih (n / 10) (by omega), toNat_dig _ (by omega)]; omega

theorem dec_ne_nil (n : Nat) : Go.Lib.decDigits n ≠ [] := by
  rw [Go.Lib.decDigits]; split <;> simp

theorem dec_digs (n : Nat) : digs (Go.Lib.decDigits n) := by
  induction n using Nat.strongRecOn with
  | _ n ih =>
    by_cases h : n < 10
    · rw [Go.Lib.decDigits_one h]; intro c hc; rw [List.mem_singleton] at hc; subst hc; rw [toNat_dig n h]; omega
    · rw [Go.Lib.decDigits, dif_neg h, digs_append]
      refine ⟨ih _ (by omega), ?_⟩
      intro c hc; rw [List.mem_singleton] at hc; subst hc; rw [toNat_dig _ (by omega)]; omega

theorem dec_head (n : Nat) : (Go.Lib.decDigits n).head? = some 48 → n = 0 := by
  induction n using Nat.strongRecOn with
  | _ n ih =>
    by_cases h : n < 10
    · rw [Go.Lib.decDigits_one h]; intro e
      rw [List.head?_cons, Option.some.injEq] at e
      have := congrArg UInt8.toNat e
      rw [toNat_dig n h] at this
      have e48 : (48 : UInt8).toNat = 48 := by decide
      omega
    · rw [Go.Lib.decDigits, dif_neg h]
      intro e
      have h2 : (Go.Lib.decDigits (n / 10)).head? = some 48 := by
        cases hd : Go.Lib.decDigits (n / 10) with
        | nil => exact absurd hd (dec_ne_nil _)
        | cons a t => rw [hd] at e; simpa using e
      have := ih (n / 10) (by omega) h2
      omega

theorem isNat_dec (n : Nat) : isNat (Go.Lib.decDigits n) := by
  refine ⟨dec_digs n, dec_ne_nil n, fun e => ?_⟩
  have := dec_head n e
  subst this; decide +kernel

theorem isNat_iff (l : List UInt8) : isNat l ↔ ∃ n, l = Go.Lib.decDigits n :=
  ⟨fun h => ⟨dval l, (dec_dval _ l rfl h).symm⟩, fun ⟨n, e⟩ => e ▸ isNat_dec n⟩

theorem dec_inj {m n : Nat} (h : Go.Lib.decDigits m = Go.Lib.decDigits n) : m = n := by
  have := congrArg dval h; rwa [dval_dec, dval_dec] at this

theorem dec_len_lt (n k : Nat) (hk : 1 ≤ k) : (Go.Lib.decDigits n).length ≤ k ↔ n < 10 ^ k := by
  rw [Go.Lib.decDigits_length]
  constructor
  · intro h
    have h1 := Go.Lib.lt_pow_nDigits n
    exact Nat.lt_of_lt_of_le h1 (Nat.pow_le_pow_right (by decide) h)
  · intro h
    have hn := isNat_dec n
    by_cases h2 : 2 ≤ (Go.Lib.decDigits n).length
    · have := isNat_pos hn h2
      rw [dval_dec] at this
      have h3 := Nat.lt_of_le_of_lt this h
      have h4 := (Nat.pow_lt_pow_iff_right (by decide : 1 < 10)).1 h3
      rw [Go.Lib.decDigits_length] at h4; omega
    · rw [Go.Lib.decDigits_length] at h2; omega

/-- The same as tests. -/
def digB (c : UInt8) : Bool := decide (48 ≤ c.toNat ∧ c.toNat ≤ 57)
def natB (l : List UInt8) : Bool := l.all digB && (!l.isEmpty && (l.head? != some 48 || l.length == 1))
def rightB (l : List UInt8) : Bool := natB l && decide (l.length ≤ 600)

theorem all_digB (l : List UInt8) : l.all digB = true ↔ digs l := by
  simp [digB, digs]
theorem natB_iff (l : List UInt8) : natB l = true ↔ isNat l := by
  unfold natB isNat
  rw [Bool.and_eq_true, all_digB]
  refine and_congr_right fun _ => ?_
  cases l with
  | nil => simp
  | cons c t => simp; exact Decidable.imp_iff_not_or.symm
theorem rightB_iff (l : List UInt8) : rightB l = true ↔ isNat l ∧ l.length ≤ 600 := by
  unfold rightB; rw [Bool.and_eq_true, natB_iff]; simp

theorem rightB_empty (l : List UInt8) (h : l.length = 0) : rightB l = false := by
  rw [List.length_eq_zero_iff] at h; subst h; rfl
theorem rightB_long (l : List UInt8) (h : 600 < l.length) : rightB l = false := by
  unfold rightB; simp; intro _; omega
theorem natB_zero (l : List UInt8) (h : l.head? = some 48) (h2 : 1 < l.length) : natB l = false := by
  cases hb : natB l with
  | false => rfl
  | true => have := ((natB_iff l).1 hb).2.2 h; omega
theorem rightB_zero (l : List UInt8) (h : l.head? = some 48) (h2 : 1 < l.length) : rightB l = false := by
  unfold rightB; rw [natB_zero l h h2]; rfl
theorem natB_bad (l : List UInt8) (k : Nat) (hk : k < l.length) (h : ¬ (48 ≤ l[k].toNat ∧ l[k].toNat ≤ 57)) : natB l = false := by
  cases hb : natB l with
  | false => rfl
  | true => exact absurd (((natB_iff l).1 hb).1 l[k] (List.getElem_mem hk)) h
theorem rightB_bad (l : List UInt8) (k : Nat) (hk : k < l.length) (h : ¬ (48 ≤ l[k].toNat ∧ l[k].toNat ≤ 57)) : rightB l = false := by
  unfold rightB; rw [natB_bad l k hk h]; rfl
theorem natB_good (l : List UInt8) (h0 : 0 < l.length) (h1 : l.head? = some 48 → l.length = 1) (h : ∀ j (hj : j < l.length), 48 ≤ l[j].toNat ∧ l[j].toNat ≤ 57) : natB l = true := by
  rw [natB_iff]
  refine ⟨fun c hc => ?_, fun e => (by rw [e] at h0; simp at h0), h1⟩
  obtain ⟨j, hj, rfl⟩ := List.getElem_of_mem hc
  exact h j hj
theorem rightB_good (l : List UInt8) (h0 : 0 < l.length) (h6 : l.length ≤ 600) (h1 : l.head? = some 48 → l.length = 1) (h : ∀ j (hj : j < l.length), 48 ≤ l[j].toNat ∧ l[j].toNat ≤ 57) : rightB l = true := by
  unfold rightB; rw [natB_good l h0 h1 h]; simpa using h6
end Cub

namespace Cub

/-- The number of limbs, the least ahead. -/
def lval (B : Nat) : List Nat → Nat
  | [] => 0
  | x :: l => x + B * lval B l

def limbs (B : Nat) (l : List Nat) : Prop := ∀ x ∈ l, x < B

theorem lval_append (B : Nat) (a b : List Nat) : lval B (a ++ b) = lval B a + B ^ a.length * lval B b := by
  induction a with
  | nil => simp [lval]
  | cons x a ih =>
    simp only [List.cons_append, lval, ih, List.length_cons, Nat.pow_succ]
    rw [Nat.mul_add, ← Nat.mul_assoc, Nat.mul_comm B (B ^ a.length)]; omega

theorem lval_snoc (B : Nat) (a : List Nat) (x : Nat) : lval B (a ++ [x]) = lval B a + B ^ a.length * x := by
  rw [lval_append]; simp [lval]

theorem limbs_append {B : Nat} {a b : List Nat} : limbs B (a ++ b) ↔ limbs B a ∧ limbs B b := by
  unfold limbs
  constructor
  · intro h; exact ⟨fun c hc => h c (List.mem_append_left _ hc), fun c hc => h c (List.mem_append_right _ hc)⟩
  · rintro ⟨h1, h2⟩ c hc
    rcases List.mem_append.1 hc with h | h
    · exact h1 c h
    · exact h2 c h

theorem lval_lt {B : Nat} {l : List Nat} (h : limbs B l) : lval B l < B ^ l.length := by
  induction l with
  | nil => simp [lval]
  | cons x l ih =>
    have hx := h x (by simp)
    have := ih (fun d hd => h d (List.mem_cons_of_mem _ hd))
    simp only [lval, List.length_cons, Nat.pow_succ]
    have h2 : B * (lval B l + 1) ≤ B * B ^ l.length := Nat.mul_le_mul_left _ this
    rw [Nat.mul_add] at h2
    rw [Nat.mul_comm (B ^ l.length)]; omega

/-- In its one form: limbs below the base, the last one not 0. -/
def normal (B : Nat) (l : List Nat) : Prop := limbs B l ∧ l.getLast? ≠ some 0

theorem normal_nil (B : Nat) : normal B [] := ⟨fun _ h => (by cases h), by simp⟩

theorem normal_ge {B : Nat} {l : List Nat} (h : normal B l) (hne : l ≠ []) : B ^ (l.length - 1) ≤ lval B l := by
  rcases List.eq_nil_or_concat l with h0 | ⟨t, c, rfl⟩
  · exact absurd h0 hne
  · rw [List.concat_eq_append] at *
    have hc : c ≠ 0 := by intro e; apply h.2; simp [e]
    rw [lval_snoc]
    have : B ^ t.length * 1 ≤ B ^ t.length * c := Nat.mul_le_mul_left _ (by omega)
    simp; omega

theorem normal_zero {B : Nat} {l : List Nat} (h : normal B l) (hB : 0 < B) : lval B l = 0 ↔ l = [] := by
  constructor
  · intro e
    by_cases hne : l = []
    · exact hne
    · have := normal_ge h hne
      have hp : 0 < B ^ (l.length - 1) := Nat.pow_pos hB
      omega
  · intro e; subst e; rfl

/-- One number has one normal list of limbs. -/
theorem lval_inj {B : Nat} (hB : 0 < B) : ∀ {a b : List Nat}, normal B a → normal B b → lval B a = lval B b → a = b := by
  have tail : ∀ {x : Nat} {l : List Nat}, normal B (x :: l) → normal B l := by
    rintro x l ⟨h1, h2⟩
    refine ⟨fun c hc => h1 c (List.mem_cons_of_mem _ hc), ?_⟩
    cases l with
    | nil => simp
    | cons y l => simpa using h2
  intro a
  induction a with
  | nil => intro b _ hb e; exact ((normal_zero hb hB).1 e.symm).symm
  | cons x a ih =>
    intro b ha hb e
    cases b with
    | nil => exact (normal_zero ha hB).1 e
    | cons y b =>
      have hx := ha.1 x (by simp)
      have hy := hb.1 y (by simp)
      simp only [lval] at e
      have e1 : x = y := by
        have := congrArg (· % B) e
        simpa [Nat.add_mul_mod_self_left, Nat.mod_eq_of_lt hx, Nat.mod_eq_of_lt hy] using this
      subst e1
      have e2 : lval B a = lval B b := Nat.eq_of_mul_eq_mul_left hB (by omega)
      rw [ih (tail ha) (tail hb) e2]

/-- Noughts at the top left out. -/
def trimN (l : List Nat) : List Nat := (l.reverse.dropWhile (· == 0)).reverse

theorem trimN_snoc_zero (l : List Nat) : trimN (l ++ [0]) = trimN l := by unfold trimN; simp
theorem trimN_snoc (l : List Nat) (x : Nat) (h : x ≠ 0) : trimN (l ++ [x]) = l ++ [x] := by
  unfold trimN; simp [h]

theorem lval_trim (B : Nat) : ∀ (n : Nat) (l : List Nat), l.length = n → lval B (trimN l) = lval B l ∧ (limbs B l → normal B (trimN l)) ∧ ∃ k, l = trimN l ++ List.replicate k 0 := by
  intro n
  induction n with
  | zero => intro l e; have := List.length_eq_zero_iff.1 e; subst this; exact ⟨rfl, fun _ => normal_nil B, 0, rfl⟩
  | succ n ih =>
    intro l e
    rcases List.eq_nil_or_concat l with h0 | ⟨t, c, rfl⟩
    · subst h0; simp at e
    · rw [List.concat_eq_append] at *
      by_cases hc : c = 0
      · subst hc
        rw [trimN_snoc_zero]
        obtain ⟨h1, h2, k, h3⟩ := ih t (by simpa using e)
        refine ⟨by rw [h1, lval_snoc]; simp, fun h => h2 (limbs_append.1 h).1, k + 1, ?_⟩
        rw [List.replicate_succ', ← List.append_assoc, ← h3]
      · rw [trimN_snoc t c hc]
        exact ⟨rfl, fun h => ⟨h, by simpa using hc⟩, 0, by simp⟩

end Cub

namespace Cub

theorem pow9 (m : Nat) : 10 ^ (9 * m) = 1000000000 ^ m := by rw [Nat.pow_mul]

/-- One limb more: the digits from f on are those of the limb, then those from e on. -/
theorem dval_cut (l : List UInt8) (m e f : Nat) (he : e + 9 * m = l.length) (hf : f ≤ e) :
    dval (l.drop f) = dval (l.drop e) + 1000000000 ^ m * dval ((l.drop f).take (e - f)) := by
  have h1 : l.drop f = (l.drop f).take (e - f) ++ l.drop e := by
    have := List.take_append_drop (e - f) (l.drop f)
    rw [List.drop_drop] at this
    rw [show f + (e - f) = e by omega] at this
    exact this.symm
  rw [← pow9]
  have hl : (l.drop e).length = 9 * m := by rw [List.length_drop]; omega
  rw [h1, dval_append, hl, ← h1, Nat.mul_comm, Nat.add_comm]

theorem digs_sub {l : List UInt8} (h : digs l) (f k : Nat) : digs ((l.drop f).take k) := fun c hc => h c (List.mem_of_mem_drop (List.mem_of_mem_take hc))

theorem seg_lt {l : List UInt8} (h : digs l) (f k : Nat) (hk : k ≤ 9) : dval ((l.drop f).take k) < 1000000000 := by
  have h1 := dval_lt (digs_sub h f k)
  have h2 : ((l.drop f).take k).length ≤ 9 := by rw [List.length_take]; omega
  have h3 : 10 ^ ((l.drop f).take k).length ≤ 10 ^ 9 := Nat.pow_le_pow_right (by decide) h2
  omega

theorem seg_lt' {l : List UInt8} (h : digs l) (f k : Nat) (hk : k ≤ 8) : dval ((l.drop f).take k) < 100000000 := by
  have h1 := dval_lt (digs_sub h f k)
  have h2 : ((l.drop f).take k).length ≤ 8 := by rw [List.length_take]; omega
  have h3 : 10 ^ ((l.drop f).take k).length ≤ 10 ^ 8 := Nat.pow_le_pow_right (by decide) h2
  omega

theorem seg_succ (l : List UInt8) (f i : Nat) (hf : f ≤ i) (hi : i < l.length) :
    dval ((l.drop f).take (i + 1 - f)) = dval ((l.drop f).take (i - f)) * 10 + (l[i].toNat - 48) := by
  rw [show i + 1 - f = (i - f) + 1 by omega, List.take_succ_eq_append_getElem (by rw [List.length_drop]; omega), dval_snoc]
  have : (l.drop f)[i - f]'(by rw [List.length_drop]; omega) = l[i] := by
    rw [List.getElem_drop]; congr 1; omega
  rw [this, Nat.mul_comm]

/-- The outer step. -/
theorem cut_step (l : List UInt8) (L : List Nat) (e f : Nat) (he : e + 9 * L.length = l.length) (hf : f = e - 9) (hd : digs l) (hL : limbs 1000000000 L)
    (hv : lval 1000000000 L = dval (l.drop e)) :
    limbs 1000000000 (L ++ [dval ((l.drop f).take (e - f))]) ∧ lval 1000000000 (L ++ [dval ((l.drop f).take (e - f))]) = dval (l.drop f) := by
  refine ⟨limbs_append.2 ⟨hL, fun x hx => ?_⟩, ?_⟩
  · rw [List.mem_singleton] at hx; subst hx; exact seg_lt hd f _ (by omega)
  · rw [lval_snoc, hv, dval_cut l L.length e f he (by omega)]
end Cub

namespace Cub
open Go.Lib (nDigits decDigits)

def dcount (y : Nat) : Nat := if y = 0 then 0 else nDigits y
theorem dcount_zero : dcount 0 = 0 := rfl
theorem dcount_step (y : Nat) (h : 0 < y) : dcount y = dcount (y / 10) + 1 := by
  unfold dcount
  rw [if_neg (by omega)]
  by_cases h10 : y < 10
  · rw [Go.Lib.nDigits_small h10, if_pos (by omega)]
  · rw [Go.Lib.nDigits_big h10, if_neg (by omega)]
theorem dcount_pos (y : Nat) (h : 0 < y) : dcount y = nDigits y := by unfold dcount; rw [if_neg (by omega)]

theorem nDigits_ge (x : Nat) (h : 0 < x) : 10 ^ (nDigits x - 1) ≤ x := by
  have h1 := isNat_dec x
  by_cases h2 : 2 ≤ (decDigits x).length
  · have := isNat_pos h1 h2
    rw [dval_dec, Go.Lib.decDigits_length] at this; exact this
  · rw [Go.Lib.decDigits_length] at h2
    have : nDigits x - 1 = 0 := by omega
    rw [this]; omega

theorem nDigits_top (t : List Nat) (x : Nat) (ht : limbs 1000000000 t) (hx : 0 < x) : nDigits (lval 1000000000 (t ++ [x])) = 9 * t.length + nDigits x := by
  have h1 := nDigits_ge x hx
  have h2 := Go.Lib.lt_pow_nDigits x
  have h3 := lval_lt ht
  have h4 := Go.Lib.nDigits_pos x
  rw [show 9 * t.length + nDigits x = (9 * t.length + (nDigits x - 1)) + 1 by omega]
  rw [lval_snoc]
  have p1 : 10 ^ (9 * t.length + (nDigits x - 1)) = 1000000000 ^ t.length * 10 ^ (nDigits x - 1) := by rw [Nat.pow_add, pow9]
  have p2 : 10 ^ (9 * t.length + (nDigits x - 1) + 1) = 1000000000 ^ t.length * 10 ^ (nDigits x) := by
    rw [show 9 * t.length + (nDigits x - 1) + 1 = 9 * t.length + nDigits x by omega, Nat.pow_add, pow9]
  apply Go.Lib.nDigits_unique
  · rw [p1]
    have := Nat.mul_le_mul_left (1000000000 ^ t.length) h1
    omega
  · rw [p2]
    have : 1000000000 ^ t.length * (x + 1) ≤ 1000000000 ^ t.length * 10 ^ (nDigits x) := Nat.mul_le_mul_left _ h2
    rw [Nat.mul_add] at this
    omega

theorem nDigits_le9 (x : Nat) (h : x < 1000000000) : nDigits x ≤ 9 := by
  have := (dec_len_lt x 9 (by decide)).2 (by simpa using h)
  rwa [Go.Lib.decDigits_length] at this

theorem len_le {l : List Nat} {k : Nat} (h : normal 1000000000 l) (hk : lval 1000000000 l < 1000000000 ^ k) : l.length ≤ k := by
  by_cases hne : l = []
  · subst hne; simp
  · have h1 := normal_ge h hne
    have h2 := (Nat.pow_lt_pow_iff_right (by decide : 1 < 1000000000)).1 (Nat.lt_of_le_of_lt h1 hk)
    omega

theorem split_last {l : List Nat} (h : l ≠ []) : ∃ t x, l = t ++ [x] := by
  rcases List.eq_nil_or_concat l with h0 | ⟨t, c, rfl⟩
  · exact absurd h0 h
  · exact ⟨t, c, by rw [List.concat_eq_append]⟩

theorem normal_last {t : List Nat} {x : Nat} (h : normal 1000000000 (t ++ [x])) : limbs 1000000000 t ∧ 0 < x ∧ x < 1000000000 := by
  refine ⟨(limbs_append.1 h.1).1, ?_, (limbs_append.1 h.1).2 x (by simp)⟩
  have : x ≠ 0 := by intro e; apply h.2; simp [e]
  omega
end Cub

namespace Cub
open Go.Lib (nDigits decDigits)

/-- The last k digits of d, each one told. -/
def padn : Nat → Nat → List UInt8
  | 0, _ => []
  | k + 1, d => padn k (d / 10) ++ [UInt8.ofNat (48 + d % 10)]

theorem padn_length (k : Nat) : ∀ d, (padn k d).length = k := by
  induction k with
  | zero => intro d; rfl
  | succ k ih => intro d; simp [padn, ih]

theorem dec_pad (k : Nat) : ∀ (q r : Nat), 0 < q → r < 10 ^ k → decDigits (10 ^ k * q + r) = decDigits q ++ padn k r := by
  induction k with
  | zero => intro q r hq hr; have : r = 0 := by simpa using hr
            subst this; simp [padn]
  | succ k ih =>
    intro q r hq hr
    have hp : 0 < 10 ^ k := Nat.pow_pos (by decide)
    have h1 : 10 ≤ 10 ^ (k + 1) * q + r := by
      rw [Nat.pow_succ]
      have : 10 ^ k * 10 * 1 ≤ 10 ^ k * 10 * q := Nat.mul_le_mul_left _ hq
      omega
    have e : 10 ^ (k + 1) * q + r = 10 * (10 ^ k * q) + r := by rw [Nat.pow_succ, Nat.mul_comm (10 ^ k) 10, Nat.mul_assoc]
    rw [decDigits, dif_neg (by omega)]
    have d1 : (10 ^ (k + 1) * q + r) / 10 = 10 ^ k * q + r / 10 := by rw [e]; omega
    have d2 : (10 ^ (k + 1) * q + r) % 10 = r % 10 := by rw [e]; omega
    rw [d1, d2, ih q (r / 10) hq (by rw [Nat.pow_succ] at hr; omega)]
    simp [padn]

theorem pad_step (d j : Nat) (hj : j + 1 ≤ 9) : padn (9 - (j + 1)) (d / 10 ^ (j + 1)) ++ [UInt8.ofNat (48 + d / 10 ^ j % 10)] = padn (9 - j) (d / 10 ^ j) := by
  rw [show 9 - j = (9 - (j + 1)) + 1 by omega]
  simp only [padn]
  rw [Nat.div_div_eq_div_mul, ← Nat.pow_succ]

theorem pad_all (d : Nat) : padn (9 - 0) (d / 10 ^ 0) = padn 9 d := by simp

/-- One limb more of the text. -/
theorem dec_limb (l : List Nat) (i : Nat) (hi : i < l.length) (hl : limbs 1000000000 l) (hq : 0 < lval 1000000000 (l.drop (i + 1))) :
    decDigits (lval 1000000000 (l.drop i)) = decDigits (lval 1000000000 (l.drop (i + 1))) ++ padn 9 l[i] := by
  have hx := hl l[i] (List.getElem_mem hi)
  rw [List.drop_eq_getElem_cons hi]
  simp only [lval]
  rw [Nat.add_comm]
  exact dec_pad 9 _ _ hq hx

theorem drop_pos {l : List Nat} (h : normal 1000000000 l) (i : Nat) (hi : i < l.length) : 0 < lval 1000000000 (l.drop i) := by
  have hne : l.drop i ≠ [] := by intro e; have := congrArg List.length e; simp at this; omega
  have hn : normal 1000000000 (l.drop i) := by
    refine ⟨fun x hx => h.1 x (List.mem_of_mem_drop hx), ?_⟩
    rw [List.getLast?_drop, if_neg (by omega)]; exact h.2
  have h1 := normal_ge hn hne
  have : 0 < 1000000000 ^ ((l.drop i).length - 1) := Nat.pow_pos (by decide)
  omega

theorem drop_last (t : List Nat) (x : Nat) : lval 1000000000 ((t ++ [x]).drop t.length) = x := by simp [lval]

/-- The unit that goes with j digits to be told. -/
def unitOf (j : Nat) : Nat := if j = 0 then 0 else 10 ^ (j - 1)
theorem unit_div (j : Nat) : unitOf (j + 1) / 10 = unitOf j := by
  unfold unitOf
  rw [if_neg (by omega)]
  cases j with
  | zero => rfl
  | succ k => rw [if_neg (by omega)]; simp [Nat.pow_succ]
theorem unit_pos (j : Nat) : 0 < unitOf j ↔ 0 < j := by
  unfold unitOf
  by_cases h : j = 0
  · simp [h]
  · rw [if_neg h]; exact ⟨fun _ => by omega, fun _ => Nat.pow_pos (by decide)⟩
theorem unit_le (j : Nat) (h : j ≤ 9) : unitOf j ≤ 100000000 := by
  unfold unitOf
  split
  · omega
  · have : 10 ^ (j - 1) ≤ 10 ^ 8 := Nat.pow_le_pow_right (by decide) (by omega)
    simpa using this
theorem unit_at (j : Nat) : unitOf (j + 1) = 10 ^ j := by unfold unitOf; rw [if_neg (by omega)]; rfl
end Cub

namespace Cub

theorem lval_set (B : Nat) : ∀ (l : List Nat) (i : Nat) (x : Nat) (h : i < l.length), lval B (l.set i x) + B ^ i * l[i] = lval B l + B ^ i * x := by
  intro l
  induction l with
  | nil => intro i x h; simp at h
  | cons a l ih =>
    intro i x h
    cases i with
    | zero => simp [lval]; omega
    | succ i =>
      have hi : i < l.length := by simpa using h
      have e := ih i x hi
      simp only [List.set_cons_succ, lval, List.getElem_cons_succ, Nat.pow_succ]
      have e2 := congrArg (B * ·) e
      simp only [Nat.mul_add] at e2
      have m1 : B ^ i * B * l[i] = B * (B ^ i * l[i]) := by rw [Nat.mul_comm (B ^ i) B, Nat.mul_assoc]
      have m2 : B ^ i * B * x = B * (B ^ i * x) := by rw [Nat.mul_comm (B ^ i) B, Nat.mul_assoc]
      omega

theorem limbs_set {B : Nat} {l : List Nat} (h : limbs B l) (i x : Nat) (hx : x < B) : limbs B (l.set i x) := by
  intro y hy
  rcases List.mem_or_eq_of_mem_set hy with h1 | h1
  · exact h y h1
  · omega

/-- What holds of a sum in the making: S the list (so long as the greater one, and one more), k what is carried, i the place. -/
structure AddInv (lp lq : List Nat) (S : List Nat) (k i : Nat) : Prop where
  len : S.length = lp.length + 1
  lim : limbs 1000000000 S
  rest : ∀ j (h : j < S.length), i ≤ j → S[j] = (lp ++ [0])[j]'(by simp; omega)
  val : lval 1000000000 S + 1000000000 ^ i * k = lval 1000000000 lp + lval 1000000000 (lq.take i)
  carry : k ≤ 1
  place : i ≤ lp.length + 1

theorem AddInv.start {lp lq : List Nat} (hp : limbs 1000000000 lp) : AddInv lp lq (lp ++ [0]) 0 0 :=
  ⟨by simp, limbs_append.2 ⟨hp, fun x hx => by rw [List.mem_singleton] at hx; omega⟩, fun j h _ => rfl, by rw [lval_snoc]; simp [lval], by omega, by omega⟩

theorem take_val (l : List Nat) (i : Nat) (h : i < l.length) : lval 1000000000 (l.take (i + 1)) = lval 1000000000 (l.take i) + 1000000000 ^ i * l[i] := by
  rw [List.take_succ_eq_append_getElem h, lval_snoc, List.length_take, Nat.min_eq_left (by omega)]

theorem take_val' (l : List Nat) (i : Nat) (h : l.length ≤ i) : lval 1000000000 (l.take (i + 1)) = lval 1000000000 (l.take i) := by
  rw [List.take_of_length_le (by omega), List.take_of_length_le h]

/-- One place more; c is the other one's limb there, or 0. -/
theorem AddInv.step {lp lq S : List Nat} {k i c : Nat} (h : AddInv lp lq S k i) (hi : i < S.length) (hc : c < 1000000000)
    (hcv : lval 1000000000 (lq.take (i + 1)) = lval 1000000000 (lq.take i) + 1000000000 ^ i * c) :
    AddInv lp lq (S.set i ((k + S[i] + c) % 1000000000)) ((k + S[i] + c) / 1000000000) (i + 1) := by
  have hS := h.lim S[i] (List.getElem_mem hi)
  have hk := h.carry
  have hl := h.len
  refine ⟨by simp [h.len], limbs_set h.lim i _ (Nat.mod_lt _ (by decide)), ?_, ?_, by omega, by omega⟩
  · intro j hj hij
    rw [List.getElem_set_ne (by omega)]
    exact h.rest j (by simpa using hj) (by omega)
  · have e1 := lval_set 1000000000 S i ((k + S[i] + c) % 1000000000) hi
    have e2 := h.val
    have e3 : k + S[i] + c = 1000000000 * ((k + S[i] + c) / 1000000000) + (k + S[i] + c) % 1000000000 := (Nat.div_add_mod _ _).symm
    generalize (k + S[i] + c) / 1000000000 = q at *
    generalize (k + S[i] + c) % 1000000000 = r at *
    rw [hcv, Nat.pow_succ]
    have e4 := congrArg (1000000000 ^ i * ·) e3
    simp only [Nat.mul_add] at e4
    have m1 : 1000000000 ^ i * 1000000000 * q = 1000000000 ^ i * (1000000000 * q) := Nat.mul_assoc _ _ _
    omega

/-- At the end nothing is carried. -/
theorem AddInv.last {lp lq S : List Nat} {k i : Nat} (h : AddInv lp lq S k i) (hp : limbs 1000000000 lp) (hq : limbs 1000000000 lq) (hl : lq.length ≤ lp.length) (hi : i = lp.length + 1) : k = 0 := by
  have h1 := lval_lt hp
  have h2 : lval 1000000000 (lq.take i) < 1000000000 ^ lp.length := by
    have := lval_lt (B := 1000000000) (l := lq.take i) (fun x hx => hq x (List.mem_of_mem_take hx))
    exact Nat.lt_of_lt_of_le this (Nat.pow_le_pow_right (by decide) (by rw [List.length_take]; omega))
  have h3 := h.val
  rw [hi, Nat.pow_succ] at h3
  rcases Nat.eq_zero_or_pos k with h0 | h0
  · exact h0
  · have : 1000000000 ^ lp.length * 1000000000 * 1 ≤ 1000000000 ^ lp.length * 1000000000 * k := Nat.mul_le_mul_left _ h0
    rw [hi] at h2
    omega

theorem AddInv.sum {lp lq S : List Nat} {i : Nat} (h : AddInv lp lq S 0 i) (hi : lq.length ≤ i) : lval 1000000000 S = lval 1000000000 lp + lval 1000000000 lq := by
  have := h.val
  rw [List.take_of_length_le hi] at this
  simpa using this
end Cub

namespace Cub
theorem takeB (B : Nat) (l : List Nat) (i : Nat) : lval B (l.take (i + 1)) = lval B (l.take i) + B ^ i * l.getD i 0 := by
  by_cases h : i < l.length
  · rw [List.take_succ_eq_append_getElem h, lval_snoc, List.length_take, Nat.min_eq_left (by omega)]
    simp [List.getD, h]
  · rw [List.take_of_length_le (by omega), List.take_of_length_le (by omega)]
    simp [List.getD, Nat.le_of_not_lt h]
end Cub

namespace Cub
/-- A list in the making, with what is carried to place p: together they are V. -/
structure Acc (B : Nat) (O : List Nat) (c p V : Nat) : Prop where
  lim : limbs B O
  val : lval B O + B ^ p * c = V

theorem Acc.step {B : Nat} {O : List Nat} {c p V : Nat} (h : Acc B O c p V) (hB : 0 < B) (hp : p < O.length) (t : Nat) :
    Acc B (O.set p ((c + O[p] + t) % B)) ((c + O[p] + t) / B) (p + 1) (V + B ^ p * t) := by
  refine ⟨limbs_set h.lim p _ (Nat.mod_lt _ hB), ?_⟩
  have e1 := lval_set B O p ((c + O[p] + t) % B) hp
  have e2 := h.val
  have e3 : c + O[p] + t = B * ((c + O[p] + t) / B) + (c + O[p] + t) % B := (Nat.div_add_mod _ _).symm
  generalize (c + O[p] + t) / B = q at *
  generalize (c + O[p] + t) % B = r at *
  have e4 := congrArg (B ^ p * ·) e3
  simp only [Nat.mul_add] at e4
  rw [Nat.pow_succ]
  have m1 : B ^ p * B * q = B ^ p * (B * q) := Nat.mul_assoc _ _ _
  omega

theorem Acc.none {B : Nat} {O : List Nat} {c p V : Nat} (h : Acc B O c p V) (hV : V < B ^ p) : c = 0 := by
  rcases Nat.eq_zero_or_pos c with h0 | h0
  · exact h0
  · have : B ^ p * 1 ≤ B ^ p * c := Nat.mul_le_mul_left _ h0
    have := h.val
    omega

theorem carry_lt (B c o x y : Nat) (hc : c < B) (ho : o < B) (hx : x < B) (hy : y < B) : (c + o + x * y) / B < B := by
  apply Nat.div_lt_of_lt_mul
  obtain ⟨b, rfl⟩ : ∃ b, B = b + 1 := ⟨B - 1, by omega⟩
  have h1 : x * y ≤ b * b := Nat.mul_le_mul (by omega) (by omega)
  have h2 : (b + 1) * (b + 1) = b * b + b + b + 1 := by rw [Nat.add_mul, Nat.mul_add]; omega
  omega
theorem carry_lt' (B c o : Nat) (hc : c < B) (ho : o < B) (hB : 2 ≤ B) : (c + o) / B < B := by
  apply Nat.div_lt_of_lt_mul
  have : B * 2 ≤ B * B := Nat.mul_le_mul_left _ hB
  omega

theorem get_zero {B : Nat} {O : List Nat} {p : Nat} (h : lval B O < B ^ p) (hp : p < O.length) : O[p] = 0 := by
  rcases Nat.eq_zero_or_pos O[p] with h0 | h0
  · exact h0
  · have e := lval_set B O p 0 hp
    have : B ^ p * 1 ≤ B ^ p * O[p] := Nat.mul_le_mul_left _ h0
    omega

theorem mul_lt (B : Nat) (x y : List Nat) (hx : limbs B x) (hy : limbs B y) (i : Nat) : lval B (x.take i) * lval B y < B ^ (i + y.length) ∨ B = 0 := by
  rcases Nat.eq_zero_or_pos B with h0 | h0
  · exact Or.inr h0
  · left
    have h1 := lval_lt (B := B) (l := x.take i) (fun z hz => hx z (List.mem_of_mem_take hz))
    have h2 := lval_lt hy
    have h3 : B ^ (x.take i).length ≤ B ^ i := Nat.pow_le_pow_right h0 (List.length_take_le _ _)
    rw [Nat.pow_add]
    exact Nat.mul_lt_mul'' (by omega) h2

theorem lval_zeros (B n : Nat) : lval B (List.replicate n 0) = 0 := by
  induction n with
  | zero => rfl
  | succ n ih => simp [List.replicate_succ, lval, ih]
theorem limbs_zeros (B n : Nat) (hB : 0 < B) : limbs B (List.replicate n 0) := fun x hx => by
  rw [List.mem_replicate] at hx; omega

/-- One more limb of y. -/
theorem val_inner (B a i k : Nat) (y : List Nat) (V : Nat) : V + B ^ i * (a * lval B (y.take k)) + B ^ (i + k) * (a * y.getD k 0) = V + B ^ i * (a * lval B (y.take (k + 1))) := by
  rw [takeB, Nat.mul_add, Nat.mul_add, Nat.pow_add]
  have : B ^ i * (a * (B ^ k * y.getD k 0)) = B ^ i * B ^ k * (a * y.getD k 0) := by
    rw [Nat.mul_left_comm a, ← Nat.mul_assoc]
  omega
theorem val_outer (B i : Nat) (x y : List Nat) : lval B (x.take i) * lval B y + B ^ i * (x.getD i 0 * lval B y) = lval B (x.take (i + 1)) * lval B y := by
  rw [takeB, Nat.add_mul, Nat.mul_assoc]
end Cub

namespace Cub
/-- The greatest number up to k whose power n is not above m. -/
def rootUp (m n : Nat) : Nat → Nat
  | 0 => 0
  | k + 1 => if (k + 1) ^ n ≤ m then k + 1 else rootUp m n k
def rootOf (m n : Nat) : Nat := rootUp m n m
theorem rootUp_le (m n : Nat) (hn : 1 ≤ n) : ∀ k, rootUp m n k ^ n ≤ m
  | 0 => by show 0 ^ n ≤ m; rw [Nat.zero_pow (by omega)]; omega
  | k + 1 => by
    unfold rootUp
    split
    · assumption
    · exact rootUp_le m n hn k
theorem rootUp_gt (m n : Nat) : ∀ k j, rootUp m n k < j → j ≤ k → m < j ^ n
  | 0, j, h1, h2 => by
    have : rootUp m n 0 = 0 := rfl
    omega
  | k + 1, j, h1, h2 => by
    unfold rootUp at h1
    split at h1
    · omega
    · rename_i h
      by_cases hj : j = k + 1
      · subst hj; omega
      · exact rootUp_gt m n k j h1 (by omega)
theorem le_pow_self (j n : Nat) (hn : 1 ≤ n) : j ≤ j ^ n := by
  by_cases h : j = 0
  · omega
  · have := Nat.pow_le_pow_right (n := j) (by omega) hn
    rwa [Nat.pow_one] at this
theorem rootOf_spec (m n : Nat) (hn : 1 ≤ n) : rootOf m n ^ n ≤ m ∧ m < (rootOf m n + 1) ^ n := by
  refine ⟨rootUp_le m n hn m, ?_⟩
  by_cases h : rootOf m n + 1 ≤ m
  · exact rootUp_gt m n m _ (Nat.lt_succ_self _) h
  · have := le_pow_self (rootOf m n + 1) n hn
    omega
theorem root_le {m n r s : Nat} (h1 : r ^ n ≤ m) (h2 : m < (s + 1) ^ n) : r ≤ s := by
  apply Decidable.byContradiction
  intro hc
  have := Nat.pow_le_pow_left (show s + 1 ≤ r by omega) n
  omega
theorem root_eq {m n r : Nat} (hn : 1 ≤ n) (h1 : r ^ n ≤ m) (h2 : m < (r + 1) ^ n) : r = rootOf m n := by
  obtain ⟨h3, h4⟩ := rootOf_spec m n hn
  exact Nat.le_antisymm (root_le h1 h4) (root_le h3 h2)
theorem root_one (m : Nat) : rootOf m 1 = m := (root_eq (n := 1) (by omega) (by simp) (by simp)).symm
theorem root_self_le (m n : Nat) (hn : 1 ≤ n) : rootOf m n ≤ m := by
  have h1 := (rootOf_spec m n hn).1
  have := le_pow_self (rootOf m n) n hn
  omega
/-- Two bounds of a root. -/
def Between (m n lo hi : Nat) : Prop := lo ^ n ≤ m ∧ m < hi ^ n
theorem Between.lt {m n lo hi : Nat} (h : Between m n lo hi) : lo < hi := by
  apply Decidable.byContradiction
  intro hc
  have := Nat.pow_le_pow_left (show hi ≤ lo by omega) n
  have := h.1; have := h.2; omega
theorem Between.done {m n lo hi : Nat} (h : Between m n lo hi) (hn : 1 ≤ n) (he : (lo + hi) / 2 = lo) : lo = rootOf m n := by
  have h1 := h.lt
  have h2 : hi = lo + 1 := by omega
  subst h2
  exact root_eq hn h.1 h.2
theorem Between.start (m n L : Nat) (hn : 1 ≤ n) (h : m < 10 ^ L) : Between m n 0 (10 ^ (L / n + 1)) := by
  refine ⟨by rw [Nat.zero_pow (by omega)]; omega, ?_⟩
  rw [← Nat.pow_mul]
  have h1 : L ≤ (L / n + 1) * n := by
    have h2 := Nat.div_add_mod L n
    have h3 := Nat.mod_lt L (show 0 < n by omega)
    rw [Nat.add_mul, Nat.one_mul, Nat.mul_comm]; omega
  exact Nat.lt_of_lt_of_le h (Nat.pow_le_pow_right (by decide) h1)
/-- What the middle comes to stays small. -/
theorem mid_small (L n K x : Nat) (hx : x < 10 ^ (L / n + 1)) (hn : 1 ≤ n) (hK : L + n ≤ K) : x ^ n < 10 ^ K := by
  have h1 : x ^ n < (10 ^ (L / n + 1)) ^ n := Nat.pow_lt_pow_left hx (by omega)
  rw [← Nat.pow_mul] at h1
  have h2 : (L / n + 1) * n ≤ K := by
    have h3 := Nat.div_mul_le_self L n
    rw [Nat.add_mul, Nat.one_mul]; omega
  exact Nat.lt_of_lt_of_le h1 (Nat.pow_le_pow_right (by decide) h2)
end Cub
