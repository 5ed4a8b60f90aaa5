/- Plain facts on decimal texts, limbs and roots. No program is named here. -/
import Derived.Lib.ItoaNum
import Derived.Lib.ParseIntB
import GoSem.Op.String
namespace Cub

/-- The number of decimal digits, the first ahead. -/
def dval (l : List UInt8) : Nat := l.foldl (fun n c => 10 * n + (c.toNat - 48)) 0

theorem dval_nil : dval [] = 0 := rfl
theorem dval_snoc (l : List UInt8) (c : UInt8) : dval (l ++ [c]) = 10 * dval l + (c.toNat - 48) := by
  unfold dval; rw [List.foldl_append]; rfl

theorem foldl_val (l : List UInt8) : ∀ a : Nat, l.foldl (fun n c => 10 * n + (c.toNat - 48)) a = a * 10 ^ l.length + dval l := by
  unfold dval
  induction l with
  | nil => intro a; simp
  | cons c l ih =>
    intro a
    simp only [List.foldl_cons, List.length_cons]
    rw [ih, ih (10 * 0 + (c.toNat - 48)), Nat.pow_succ]
    rw [Nat.add_mul]
    have : 10 * a * 10 ^ l.length = a * (10 ^ l.length * 10) := by
      rw [Nat.mul_comm 10 a, Nat.mul_assoc, Nat.mul_comm 10]
    rw [this]
    simp only [Nat.mul_zero, Nat.zero_add]
    rw [Nat.add_assoc]

theorem dval_append (a b : List UInt8) : dval (a ++ b) = dval a * 10 ^ b.length + dval b := by
  have := foldl_val b (dval a)
  rw [← this]; unfold dval; rw [List.foldl_append]

theorem dval_cons (c : UInt8) (l : List UInt8) : dval (c :: l) = (c.toNat - 48) * 10 ^ l.length + dval l := by
  have := dval_append [c] l
  simpa [dval] using this

/-- Decimal digits alone. -/
def digs (l : List UInt8) : Prop := ∀ c ∈ l, 48 ≤ c.toNat ∧ c.toNat ≤ 57

theorem digs_nil : digs [] := by intro c h; cases h
theorem digs_append {a b : List UInt8} : digs (a ++ b) ↔ digs a ∧ digs b := by
  unfold digs
  constructor
  · intro h; exact ⟨fun c hc => h c (List.mem_append_left _ hc), fun c hc => h c (List.mem_append_right _ hc)⟩
  · rintro ⟨h1, h2⟩ c hc
    rcases List.mem_append.1 hc with h | h
    · exact h1 c h
    · exact h2 c h

theorem dval_lt {l : List UInt8} (h : digs l) : dval l < 10 ^ l.length := by
  induction l with
  | nil => simp [dval]
  | cons c l ih =>
    have hc := h c (by simp)
    have := ih (fun d hd => h d (List.mem_cons_of_mem _ hd))
    rw [dval_cons, List.length_cons, Nat.pow_succ]
    have h2 : (c.toNat - 48) * 10 ^ l.length ≤ 9 * 10 ^ l.length := Nat.mul_le_mul_right _ (by omega)
    omega

/-- A natural number's one text: digits, at least one, no nought ahead of another one. -/
def isNat (l : List UInt8) : Prop := digs l ∧ l ≠ [] ∧ (l.head? = some 48 → l.length = 1)

theorem ofNat_toNat (c : UInt8) : UInt8.ofNat c.toNat = c := by simp

theorem isNat_pos {l : List UInt8} (h : isNat l) (h2 : 2 ≤ l.length) : 10 ^ (l.length - 1) ≤ dval l := by
  obtain ⟨hd, hne, hz⟩ := h
  cases l with
  | nil => simp at h2
  | cons c t =>
    have hc := hd c (by simp)
    have hc2 : c.toNat ≠ 48 := by
      intro e
      have e2 : c = 48 := by rw [← ofNat_toNat c, e]; rfl
      have := hz (by simp [e2])
      simp at this h2
      rw [this] at h2; simp at h2
    rw [dval_cons]
    have : 1 * 10 ^ t.length ≤ (c.toNat - 48) * 10 ^ t.length := Nat.mul_le_mul_right _ (by omega)
    simp at this ⊢
    omega

theorem isNat_init {l : List UInt8} {c : UInt8} (h : isNat (l ++ [c])) (hl : l ≠ []) : isNat l := by
  obtain ⟨hd, hne, hz⟩ := h
  refine ⟨(digs_append.1 hd).1, hl, fun e => ?_⟩
  cases l with
  | nil => exact absurd rfl hl
  | cons a t =>
    have := hz (by simpa using e)
    simp at this

/-- The text of a text's number is the text. -/
theorem dec_dval : ∀ (n : Nat) (l : List UInt8), l.length = n → isNat l → Go.Lib.decDigits (dval l) = l := by
  intro n
  induction n with
  | zero => intro l e h; exact absurd (List.length_eq_zero_iff.1 e) h.2.1
  | succ n ih =>
    intro l e h
    rcases List.eq_nil_or_concat l with h0 | ⟨t, c, rfl⟩
    · exact absurd h0 h.2.1
    · rw [List.concat_eq_append] at e h ⊢
      have hc := (digs_append.1 h.1).2 c (by simp)
      by_cases ht : t = []
      · subst ht
        have e1 : dval ([] ++ [c]) = c.toNat - 48 := by simp [dval]
        rw [e1, Go.Lib.decDigits_one (by omega)]
        have : 48 + (c.toNat - 48) = c.toNat := by omega
        rw [this, ofNat_toNat]; rfl
      · have hi := isNat_init h ht
        have hl : t.length = n := by simpa using e
        have hpos : 1 ≤ dval t := by
          by_cases h2 : 2 ≤ t.length
          · have := isNat_pos hi h2
            have hp : 1 ≤ 10 ^ (t.length - 1) := Nat.one_le_pow _ _ (by decide)
            omega
          · have h1 : t.length = 1 := by
              cases t with
              | nil => exact absurd rfl ht
              | cons a t => simp at h2 ⊢; omega
            -- one digit, not a nought
            cases t with
            | nil => exact absurd rfl ht
            | cons a t =>
              have : t = [] := by simpa using h1
              subst this
              have ha := (digs_append.1 h.1).1 a (by simp)
              have hne : a.toNat ≠ 48 := by
                intro ea
                have ea2 : a = 48 := by rw [← ofNat_toNat a, ea]; rfl
                have := h.2.2 (by simp [ea2])
                simp at this
              simp [dval]; omega
        rw [dval_snoc, Go.Lib.decDigits, dif_neg (by omega)]
        have d1 : (10 * dval t + (c.toNat - 48)) / 10 = dval t := by omega
        have d2 : (10 * dval t + (c.toNat - 48)) % 10 = c.toNat - 48 := by omega
        rw [d1, d2, ih t hl hi]
        have : 48 + (c.toNat - 48) = c.toNat := by omega
        rw [this, ofNat_toNat]

theorem toNat_dig (k : Nat) (h : k < 10) : (UInt8.ofNat (48 + k)).toNat = 48 + k := by
  rw [UInt8.toNat_ofNat']; omega

/-- The text of a number is a natural number's, and its number is that one. -/
theorem dval_dec (n : Nat) : dval (Go.Lib.decDigits n) = n := by
  induction n using Nat.strongRecOn with
  | _ n ih =>
    by_cases h : n < 10
    · rw [Go.Lib.decDigits_one h, show [UInt8.ofNat (48 + n)] = [] ++ [UInt8.ofNat (48 + n)] from rfl, dval_snoc, toNat_dig n h, dval_nil]; omega
    · rw [Go.Lib.decDigits, dif_neg h, dval_snoc, ih (n / 10) (by omega), toNat_dig _ (by omega)]; omega

theorem dec_ne_nil (n : Nat) : Go.Lib.decDigits n ≠ [] := by
  rw [Go.Lib.decDigits]; split <;> simp

theorem dec_digs (n : Nat) : digs (Go.Lib.decDigits n) := by
  induction n using Nat.strongRecOn with
  | _ n ih =>
    by_cases h : n < 10
    · rw [Go.Lib.decDigits_one h]; intro c hc; rw [List.mem_singleton] at hc; subst hc; rw [toNat_dig n h]; omega
    · rw [Go.Lib.decDigits, dif_neg h, digs_append]
      refine ⟨ih _ (by omega), ?_⟩
      intro c hc; rw [List.mem_singleton] at hc; subst hc; rw [toNat_dig _ (by omega)]; omega

theorem dec_head (n : Nat) : (Go.Lib.decDigits n).head? = some 48 → n = 0 := by
  induction n using Nat.strongRecOn with
  | _ n ih =>
    by_cases h : n < 10
    · rw [Go.Lib.decDigits_one h]; intro e
      rw [List.head?_cons, Option.some.injEq] at e
      have := congrArg UInt8.toNat e
      rw [toNat_dig n h] at this
      have e48 : (48 : UInt8).toNat = 48 := by decide
      omega
    · rw [Go.Lib.decDigits, dif_neg h]
      intro e
      have h2 : (Go.Lib.decDigits (n / 10)).head? = some 48 := by
        cases hd : Go.Lib.decDigits (n / 10) with
        | nil => exact absurd hd (dec_ne_nil _)
        | cons a t => rw [hd] at e; simpa using e
      have := ih (n / 10) (by omega) h2
      omega

theorem isNat_dec (n : Nat) : isNat (Go.Lib.decDigits n) := by
  refine ⟨dec_digs n, dec_ne_nil n, fun e => ?_⟩
  have := dec_head n e
  subst this; decide +kernel

theorem isNat_iff (l : List UInt8) : isNat l ↔ ∃ n, l = Go.Lib.decDigits n :=
  ⟨fun h => ⟨dval l, (dec_dval _ l rfl h).symm⟩, fun ⟨n, e⟩ => e ▸ isNat_dec n⟩

theorem dec_inj {m n : Nat} (h : Go.Lib.decDigits m = Go.Lib.decDigits n) : m = n := by
  have := congrArg dval h; rwa [dval_dec, dval_dec] at this

theorem dec_len_lt (n k : Nat) (hk : 1 ≤ k) : (Go.Lib.decDigits n).length ≤ k ↔ n < 10 ^ k := by
  rw [Go.Lib.decDigits_length]
  constructor
  · intro h
    have h1 := Go.Lib.lt_pow_nDigits n
    exact Nat.lt_of_lt_of_le h1 (Nat.pow_le_pow_right (by decide) h)
  · intro h
    have hn := isNat_dec n
    by_cases h2 : 2 ≤ (Go.Lib.decDigits n).length
    · have := isNat_pos hn h2
      rw [dval_dec] at this
      have h3 := Nat.lt_of_le_of_lt this h
      have h4 := (Nat.pow_lt_pow_iff_right (by decide : 1 < 10)).1 h3
      rw [Go.Lib.decDigits_length] at h4; omega
    · rw [Go.Lib.decDigits_length] at h2; omega

/-- The same as tests. -/
def digB (c : UInt8) : Bool := decide (48 ≤ c.toNat ∧ c.toNat ≤ 57)
def natB (l : List UInt8) : Bool := l.all digB && (!l.isEmpty && (l.head? != some 48 || l.length == 1))
def rightB (l : List UInt8) : Bool := natB l && decide (l.length ≤ 600)

theorem all_digB (l : List UInt8) : l.all digB = true ↔ digs l := by
  simp [digB, digs]
theorem natB_iff (l : List UInt8) : natB l = true ↔ isNat l := by
  unfold natB isNat
  rw [Bool.and_eq_true, all_digB]
  refine and_congr_right fun _ => ?_
  cases l with
  | nil => simp
  | cons c t => simp; exact Decidable.imp_iff_not_or.symm
theorem rightB_iff (l : List UInt8) : rightB l = true ↔ isNat l ∧ l.length ≤ 600 := by
  unfold rightB; rw [Bool.and_eq_true, natB_iff]; simp

theorem rightB_empty (l : List UInt8) (h : l.length = 0) : rightB l = false := by
  rw [List.length_eq_zero_iff] at h; subst h; rfl
theorem rightB_long (l : List UInt8) (h : 600 < l.length) : rightB l = false := by
  unfold rightB; simp; intro _; omega
theorem natB_zero (l : List UInt8) (h : l.head? = some 48) (h2 : 1 < l.length) : natB l = false := by
  cases hb : natB l with
  | false => rfl
  | true => have := ((natB_iff l).1 hb).2.2 h; omega
theorem rightB_zero (l : List UInt8) (h : l.head? = some 48) (h2 : 1 < l.length) : rightB l = false := by
  unfold rightB; rw [natB_zero l h h2]; rfl
theorem natB_bad (l : List UInt8) (k : Nat) (hk : k < l.length) (h : ¬ (48 ≤ l[k].toNat ∧ l[k].toNat ≤ 57)) : natB l = false := by
  cases hb : natB l with
  | false => rfl
  | true => exact absurd (((natB_iff l).1 hb).1 l[k] (List.getElem_mem hk)) h
theorem rightB_bad (l : List UInt8) (k : Nat) (hk : k < l.length) (h : ¬ (48 ≤ l[k].toNat ∧ l[k].toNat ≤ 57)) : rightB l = false := by
  unfold rightB; rw [natB_bad l k hk h]; rfl
theorem natB_good (l : List UInt8) (h0 : 0 < l.length) (h1 : l.head? = some 48 → l.length = 1) (h : ∀ j (hj : j < l.length), 48 ≤ l[j].toNat ∧ l[j].toNat ≤ 57) : natB l = true := by
  rw [natB_iff]
  refine ⟨fun c hc => ?_, fun e => (by rw [e] at h0; simp at h0), h1⟩
  obtain ⟨j, hj, rfl⟩ := List.getElem_of_mem hc
  exact h j hj
theorem rightB_good (l : List UInt8) (h0 : 0 < l.length) (h6 : l.length ≤ 600) (h1 : l.head? = some 48 → l.length = 1) (h : ∀ j (hj : j < l.length), 48 ≤ l[j].toNat ∧ l[j].toNat ≤ 57) : rightB l = true := by
  unfold rightB; rw [natB_good l h0 h1 h]; simpa using h6
end Cub

namespace Cub

/-- The number of limbs, the least ahead. -/
def lval (B : Nat) : List Nat → Nat
  | [] => 0
  | x :: l => x + B * lval B l

def limbs (B : Nat) (l : List Nat) : Prop := ∀ x ∈ l, x < B

theorem lval_append (B : Nat) (a b : List Nat) : lval B (a ++ b) = lval B a + B ^ a.length * lval B b := by
  induction a with
  | nil => simp [lval]
  | cons x a ih =>
    simp only [List.cons_append, lval, ih, List.length_cons, Nat.pow_succ]
    rw [Nat.mul_add, ← Nat.mul_assoc, Nat.mul_comm B (B ^ a.length)]; omega

theorem lval_snoc (B : Nat) (a : List Nat) (x : Nat) : lval B (a ++ [x]) = lval B a + B ^ a.length * x := by
  rw [lval_append]; simp [lval]

theorem limbs_append {B : Nat} {a b : List Nat} : limbs B (a ++ b) ↔ limbs B a ∧ limbs B b := by
  unfold limbs
  constructor
  · intro h; exact ⟨fun c hc => h c (List.mem_append_left _ hc), fun c hc => h c (List.mem_append_right _ hc)⟩
  · rintro ⟨h1, h2⟩ c hc
    rcases List.mem_append.1 hc with h | h
    · exact h1 c h
    · exact h2 c h

theorem lval_lt {B : Nat} {l : List Nat} (h : limbs B l) : lval B l < B ^ l.length := by
  induction l with
  | nil => simp [lval]
  | cons x l ih =>
    have hx := h x (by simp)
    have := ih (fun d hd => h d (List.mem_cons_of_mem _ hd))
    simp only [lval, List.length_cons, Nat.pow_succ]
    have h2 : B * (lval B l + 1) ≤ B * B ^ l.length := Nat.mul_le_mul_left _ this
    rw [Nat.mul_add] at h2
    rw [Nat.mul_comm (B ^ l.length)]; omega

/-- In its one form: limbs below the base, the last one not 0. -/
def normal (B : Nat) (l : List Nat) : Prop := limbs B l ∧ l.getLast? ≠ some 0

theorem normal_nil (B : Nat) : normal B [] := ⟨fun _ h => (by cases h), by simp⟩

theorem normal_ge {B : Nat} {l : List Nat} (h : normal B l) (hne : l ≠ []) : B ^ (l.length - 1) ≤ lval B l := by
  rcases List.eq_nil_or_concat l with h0 | ⟨t, c, rfl⟩
  · exact absurd h0 hne
  · rw [List.concat_eq_append] at *
    have hc : c ≠ 0 := by intro e; apply h.2; simp [e]
    rw [lval_snoc]
    have : B ^ t.length * 1 ≤ B ^ t.length * c := Nat.mul_le_mul_left _ (by omega)
    simp; omega

theorem normal_zero {B : Nat} {l : List Nat} (h : normal B l) (hB : 0 < B) : lval B l = 0 ↔ l = [] := by
  constructor
  · intro e
    by_cases hne : l = []
    · exact hne
    · have := normal_ge h hne
      have hp : 0 < B ^ (l.length - 1) := Nat.pow_pos hB
      omega
  · intro e; subst e; rfl

/-- One number has one normal list of limbs. -/
theorem lval_inj {B : Nat} (hB : 0 < B) : ∀ {a b : List Nat}, normal B a → normal B b → lval B a = lval B b → a = b := by
  have tail : ∀ {x : Nat} {l : List Nat}, normal B (x :: l) → normal B l := by
    rintro x l ⟨h1, h2⟩
    refine ⟨fun c hc => h1 c (List.mem_cons_of_mem _ hc), ?_⟩
    cases l with
    | nil => simp
    | cons y l => simpa using h2
  intro a
  induction a with
  | nil => intro b _ hb e; exact ((normal_zero hb hB).1 e.symm).symm
  | cons x a ih =>
    intro b ha hb e
    cases b with
    | nil => exact (normal_zero ha hB).1 e
    | cons y b =>
      have hx := ha.1 x (by simp)
      have hy := hb.1 y (by simp)
      simp only [lval] at e
      have e1 : x = y := by
        have := congrArg (· % B) e
        simpa [Nat.add_mul_mod_self_left, Nat.mod_eq_of_lt hx, Nat.mod_eq_of_lt hy] using this
      subst e1
      have e2 : lval B a = lval B b := Nat.eq_of_mul_eq_mul_left hB (by omega)
      rw [ih (tail ha) (tail hb) e2]

/-- Noughts at the top left out. -/
def trimN (l : List Nat) : List Nat := (l.reverse.dropWhile (· == 0)).reverse

theorem trimN_snoc_zero (l : List Nat) : trimN (l ++ [0]) = trimN l := by unfold trimN; simp
theorem trimN_snoc (l : List Nat) (x : Nat) (h : x ≠ 0) : trimN (l ++ [x]) = l ++ [x] := by
  unfold trimN; simp [h]

theorem lval_trim (B : Nat) : ∀ (n : Nat) (l : List Nat), l.length = n → lval B (trimN l) = lval B l ∧ (limbs B l → normal B (trimN l)) ∧ ∃ k, l = trimN l ++ List.replicate k 0 := by
  intro n
  induction n with
  | zero => intro l e; have := List.length_eq_zero_iff.1 e; subst this; exact ⟨rfl, fun _ => normal_nil B, 0, rfl⟩
  | succ n ih =>
    intro l e
    rcases List.eq_nil_or_concat l with h0 | ⟨t, c, rfl⟩
    · subst h0; simp at e
    · rw [List.concat_eq_append] at *
      by_cases hc : c = 0
      · subst hc
        rw [trimN_snoc_zero]
        obtain ⟨h1, h2, k, h3⟩ := ih t (by simpa using e)
        refine ⟨by rw [h1, lval_snoc]; simp, fun h => h2 (limbs_append.1 h).1, k + 1, ?_⟩
        rw [List.replicate_succ', ← List.append_assoc, ← h3]
      · rw [trimN_snoc t c hc]
        exact ⟨rfl, fun h => ⟨h, by simpa using hc⟩, 0, by simp⟩

end Cub

namespace Cub

theorem pow9 (m : Nat) : 10 ^ (9 * m) = 1000000000 ^ m := by rw [Nat.pow_mul]

/-- One limb more: the digits from f on are those of the limb, then those from e on. -/
theorem dval_cut (l : List UInt8) (m e f : Nat) (he : e + 9 * m = l.length) (hf : f ≤ e) :
    dval (l.drop f) = dval (l.drop e) + 1000000000 ^ m * dval ((l.drop f).take (e - f)) := by
  have h1 : l.drop f = (l.drop f).take (e - f) ++ l.drop e := by
    have := List.take_append_drop (e - f) (l.drop f)
    rw [List.drop_drop] at this
    rw [show f + (e - f) = e by omega] at this
    exact this.symm
  rw [← pow9]
  have hl : (l.drop e).length = 9 * m := by rw [List.length_drop]; omega
  rw [h1, dval_append, hl, ← h1, Nat.mul_comm, Nat.add_comm]

theorem digs_sub {l : List UInt8} (h : digs l) (f k : Nat) : digs ((l.drop f).take k) := fun c hc => h c (List.mem_of_mem_drop (List.mem_of_mem_take hc))

theorem seg_lt {l : List UInt8} (h : digs l) (f k : Nat) (hk : k ≤ 9) : dval ((l.drop f).take k) < 1000000000 := by
  have h1 := dval_lt (digs_sub h f k)
  have h2 : ((l.drop f).take k).length ≤ 9 := by rw [List.length_take]; omega
  have h3 : 10 ^ ((l.drop f).take k).length ≤ 10 ^ 9 := Nat.pow_le_pow_right (by decide) h2
  omega

theorem seg_lt' {l : List UInt8} (h : digs l) (f k : Nat) (hk : k ≤ 8) : dval ((l.drop f).take k) < 100000000 := by
  have h1 := dval_lt (digs_sub h f k)
  have h2 : ((l.drop f).take k).length ≤ 8 := by rw [List.length_take]; omega
  have h3 : 10 ^ ((l.drop f).take k).length ≤ 10 ^ 8 := Nat.pow_le_pow_right (by decide) h2
  omega

theorem seg_succ (l : List UInt8) (f i : Nat) (hf : f ≤ i) (hi : i < l.length) :
    dval ((l.drop f).take (i + 1 - f)) = dval ((l.drop f).take (i - f)) * 10 + (l[i].toNat - 48) := by
  rw [show i + 1 - f = (i - f) + 1 by omega, List.take_succ_eq_append_getElem (by rw [List.length_drop]; omega), dval_snoc]
  have : (l.drop f)[i - f]'(by rw [List.length_drop]; omega) = l[i] := by
    rw [List.getElem_drop]; congr 1; omega
  rw [this, Nat.mul_comm]

/-- The outer step. -/
theorem cut_step (l : List UInt8) (L : List Nat) (e f : Nat) (he : e + 9 * L.length = l.length) (hf : f = e - 9) (hd : digs l) (hL : limbs 1000000000 L)
    (hv : lval 1000000000 L = dval (l.drop e)) :
    limbs 1000000000 (L ++ [dval ((l.drop f).take (e - f))]) ∧ lval 1000000000 (L ++ [dval ((l.drop f).take (e - f))]) = dval (l.drop f) := by
  refine ⟨limbs_append.2 ⟨hL, fun x hx => ?_⟩, ?_⟩
  · rw [List.mem_singleton] at hx; subst hx; exact seg_lt hd f _ (by omega)
  · rw [lval_snoc, hv, dval_cut l L.length e f he (by omega)]
end Cub

namespace Cub
open Go.Lib (nDigits decDigits)

def dcount (y : Nat) : Nat := if y = 0 then 0 else nDigits y
theorem dcount_zero : dcount 0 = 0 := rfl
theorem dcount_step (y : Nat) (h : 0 < y) : dcount y = dcount (y / 10) + 1 := by
  unfold dcount
  rw [if_neg (by omega)]
  by_cases h10 : y < 10
  · rw [Go.Lib.nDigits_small h10, if_pos (by omega)]
  · rw [Go.Lib.nDigits_big h10, if_neg (by omega)]
theorem dcount_pos (y : Nat) (h : 0 < y) : dcount y = nDigits y := by unfold dcount; rw [if_neg (by omega)]

theorem nDigits_ge (x : Nat) (h : 0 < x) : 10 ^ (nDigits x - 1) ≤ x := by
  have h1 := isNat_dec x
  by_cases h2 : 2 ≤ (decDigits x).length
  · have := isNat_pos h1 h2
    rw [dval_dec, Go.Lib.decDigits_length] at this; exact this
  · rw [Go.Lib.decDigits_length] at h2
    have : nDigits x - 1 = 0 := by omega
    rw [this]; omega

theorem nDigits_top (t : List Nat) (x : Nat) (ht : limbs 1000000000 t) (hx : 0 < x) : nDigits (lval 1000000000 (t ++ [x])) = 9 * t.length + nDigits x := by
  have h1 := nDigits_ge x hx
  have h2 := Go.Lib.lt_pow_nDigits x
  have h3 := lval_lt ht
  have h4 := Go.Lib.nDigits_pos x
  rw [show 9 * t.length + nDigits x = (9 * t.length + (nDigits x - 1)) + 1 by omega]
  rw [lval_snoc]
  have p1 : 10 ^ (9 * t.length + (nDigits x - 1)) = 1000000000 ^ t.length * 10 ^ (nDigits x - 1) := by rw [Nat.pow_add, pow9]
  have p2 : 10 ^ (9 * t.length + (nDigits x - 1) + 1) = 1000000000 ^ t.length * 10 ^ (nDigits x) := by
    rw [show 9 * t.length + (nDigits x - 1) + 1 = 9 * t.length + nDigits x by omega, Nat.pow_add, pow9]
  apply Go.Lib.nDigits_unique
  · rw [p1]
    have := Nat.mul_le_mul_left (1000000000 ^ t.length) h1
    omega
  · rw [p2]
    have : 1000000000 ^ t.length * (x + 1) ≤ 1000000000 ^ t.length * 10 ^ (nDigits x) := Nat.mul_le_mul_left _ h2
    rw [Nat.mul_add] at this
    omega

theorem nDigits_le9 (x : Nat) (h : x < 1000000000) : nDigits x ≤ 9 := by
  have := (dec_len_lt x 9 (by decide)).2 (by simpa using h)
  rwa [Go.Lib.decDigits_length] at this

theorem len_le {l : List Nat} {k : Nat} (h : normal 1000000000 l) (hk : lval 1000000000 l < 1000000000 ^ k) : l.length ≤ k := by
  by_cases hne : l = []
  · subst hne; simp
  · have h1 := normal_ge h hne
    have h2 := (Nat.pow_lt_pow_iff_right (by decide : 1 < 1000000000)).1 (Nat.lt_of_le_of_lt h1 hk)
    omega

theorem split_last {l : List Nat} (h : l ≠ []) : ∃ t x, l = t ++ [x] := by
  rcases List.eq_nil_or_concat l with h0 | ⟨t, c, rfl⟩
  · exact absurd h0 h
  · exact ⟨t, c, by rw [List.concat_eq_append]⟩

theorem normal_last {t : List Nat} {x : Nat} (h : normal 1000000000 (t ++ [x])) : limbs 1000000000 t ∧ 0 < x ∧ x < 1000000000 := by
  refine ⟨(limbs_append.1 h.1).1, ?_, (limbs_append.1 h.1).2 x (by simp)⟩
  have : x ≠ 0 := by intro e; apply h.2; simp [e]
  omega
end Cub

namespace Cub
open Go.Lib (nDigits decDigits)

/-- The last k digits of d, each one told. -/
def padn : Nat → Nat → List UInt8
  | 0, _ => []
  | k + 1, d => padn k (d / 10) ++ [UInt8.ofNat (48 + d % 10)]

theorem padn_length (k : Nat) : ∀ d, (padn k d).length = k := by
  induction k with
  | zero => intro d; rfl
  | succ k ih => intro d; simp [padn, ih]

theorem dec_pad (k : Nat) : ∀ (q r : Nat), 0 < q → r < 10 ^ k → decDigits (10 ^ k * q + r) = decDigits q ++ padn k r := by
  induction k with
  | zero => intro q r hq hr; have : r = 0 := by simpa using hr
            subst this; simp [padn]
  | succ k ih =>
    intro q r hq hr
    have hp : 0 < 10 ^ k := Nat.pow_pos (by decide)
    have h1 : 10 ≤ 10 ^ (k + 1) * q + r := by
      rw [Nat.pow_succ]
      have : 10 ^ k * 10 * 1 ≤ 10 ^ k * 10 * q := Nat.mul_le_mul_left _ hq
      omega
    have e : 10 ^ (k + 1) * q + r = 10 * (10 ^ k * q) + r := by rw [Nat.pow_succ, Nat.mul_comm (10 ^ k) 10, Nat.mul_assoc]
    rw [decDigits, dif_neg (by omega)]
    have d1 : (10 ^ (k + 1) * q + r) / 10 = 10 ^ k * q + r / 10 := by rw [e]; omega
    have d2 : (10 ^ (k + 1) * q + r) % 10 = r % 10 := by rw [e]; omega
    rw [d1, d2, ih q (r / 10) hq (by rw [Nat.pow_succ] at hr; omega)]
    simp [padn]

theorem pad_step (d j : Nat) (hj : j + 1 ≤ 9) : padn (9 - (j + 1)) (d / 10 ^ (j + 1)) ++ [UInt8.ofNat (48 + d / 10 ^ j % 10)] = padn (9 - j) (d / 10 ^ j) := by
  rw [show 9 - j = (9 - (j + 1)) + 1 by omega]
  simp only [padn]
  rw [Nat.div_div_eq_div_mul, ← Nat.pow_succ]

theorem pad_all (d : Nat) : padn (9 - 0) (d / 10 ^ 0) = padn 9 d := by simp

/-- One limb more of the text. -/
theorem dec_limb (l : List Nat) (i : Nat) (hi : i < l.length) (hl : limbs 1000000000 l) (hq : 0 < lval 1000000000 (l.drop (i + 1))) :
    decDigits (lval 1000000000 (l.drop i)) = decDigits (lval 1000000000 (l.drop (i + 1))) ++ padn 9 l[i] := by
  have hx := hl l[i] (List.getElem_mem hi)
  rw [List.drop_eq_getElem_cons hi]
  simp only [lval]
  rw [Nat.add_comm]
  exact dec_pad 9 _ _ hq hx

theorem drop_pos {l : List Nat} (h : normal 1000000000 l) (i : Nat) (hi : i < l.length) : 0 < lval 1000000000 (l.drop i) := by
  have hne : l.drop i ≠ [] := by intro e; have := congrArg List.length e; simp at this; omega
  have hn : normal 1000000000 (l.drop i) := by
    refine ⟨fun x hx => h.1 x (List.mem_of_mem_drop hx), ?_⟩
    rw [List.getLast?_drop, if_neg (by omega)]; exact h.2
  have h1 := normal_ge hn hne
  have : 0 < 1000000000 ^ ((l.drop i).length - 1) := Nat.pow_pos (by decide)
  omega

theorem drop_last (t : List Nat) (x : Nat) : lval 1000000000 ((t ++ [x]).drop t.length) = x := by simp [lval]

/-- The unit that goes with j digits to be told. -/
def unitOf (j : Nat) : Nat := if j = 0 then 0 else 10 ^ (j - 1)
theorem unit_div (j : Nat) : unitOf (j + 1) / 10 = unitOf j := by
  unfold unitOf
  rw [if_neg (by omega)]
  cases j with
  | zero => rfl
  | succ k => rw [if_neg (by omega)]; simp [Nat.pow_succ]
theorem unit_pos (j : Nat) : 0 < unitOf j ↔ 0 < j := by
  unfold unitOf
  by_cases h : j = 0
  · simp [h]
  · rw [if_neg h]; exact ⟨fun _ => by omega, fun _ => Nat.pow_pos (by decide)⟩
theorem unit_le (j : Nat) (h : j ≤ 9) : unitOf j ≤ 100000000 := by
  unfold unitOf
  split
  · omega
  · have : 10 ^ (j - 1) ≤ 10 ^ 8 := Nat.pow_le_pow_right (by decide) (by omega)
    simpa using this
theorem unit_at (j : Nat) : unitOf (j + 1) = 10 ^ j := by unfold unitOf; rw [if_neg (by omega)]; rfl
end Cub

namespace Cub

theorem lval_set (B : Nat) : ∀ (l : List Nat) (i : Nat) (x : Nat) (h : i < l.length), lval B (l.set i x) + B ^ i * l[i] = lval B l + B ^ i * x := by
  intro l
  induction l with
  | nil => intro i x h; simp at h
  | cons a l ih =>
    intro i x h
    cases i with
    | zero => simp [lval]; omega
    | succ i =>
      have hi : i < l.length := by simpa using h
      have e := ih i x hi
      simp only [List.set_cons_succ, lval, List.getElem_cons_succ, Nat.pow_succ]
      have e2 := congrArg (B * ·) e
      simp only [Nat.mul_add] at e2
      have m1 : B ^ i * B * l[i] = B * (B ^ i * l[i]) := by rw [Nat.mul_comm (B ^ i) B, Nat.mul_assoc]
      have m2 : B ^ i * B * x = B * (B ^ i * x) := by rw [Nat.mul_comm (B ^ i) B, Nat.mul_assoc]
      omega

theorem limbs_set {B : Nat} {l : List Nat} (h : limbs B l) (i x : Nat) (hx : x < B) : limbs B (l.set i x) := by
  intro y hy
  rcases List.mem_or_eq_of_mem_set hy with h1 | h1
  · exact h y h1
  · omega

/-- What holds of a sum in the making: S the list (so long as the greater one, and one more), k what is carried, i the place. -/
structure AddInv (lp lq : List Nat) (S : List Nat) (k i : Nat) : Prop where
  len : S.length = lp.length + 1
  lim : limbs 1000000000 S
  rest : ∀ j (h : j < S.length), i ≤ j → S[j] = (lp ++ [0])[j]'(by simp; omega)
  val : lval 1000000000 S + 1000000000 ^ i * k = lval 1000000000 lp + lval 1000000000 (lq.take i)
  carry : k ≤ 1
  place : i ≤ lp.length + 1

theorem AddInv.start {lp lq : List Nat} (hp : limbs 1000000000 lp) : AddInv lp lq (lp ++ [0]) 0 0 :=
  ⟨by simp, limbs_append.2 ⟨hp, fun x hx => by rw [List.mem_singleton] at hx; omega⟩, fun j h _ => rfl, by rw [lval_snoc]; simp [lval], by omega, by omega⟩

theorem take_val (l : List Nat) (i : Nat) (h : i < l.length) : lval 1000000000 (l.take (i + 1)) = lval 1000000000 (l.take i) + 1000000000 ^ i * l[i] := by
  rw [List.take_succ_eq_append_getElem h, lval_snoc, List.length_take, Nat.min_eq_left (by omega)]

theorem take_val' (l : List Nat) (i : Nat) (h : l.length ≤ i) : lval 1000000000 (l.take (i + 1)) = lval 1000000000 (l.take i) := by
  rw [List.take_of_length_le (by omega), List.take_of_length_le h]

/-- One place more; c is the other one's limb there, or 0. -/
theorem AddInv.step {lp lq S : List Nat} {k i c : Nat} (h : AddInv lp lq S k i) (hi : i < S.length) (hc : c < 1000000000)
    (hcv : lval 1000000000 (lq.take (i + 1)) = lval 1000000000 (lq.take i) + 1000000000 ^ i * c) :
    AddInv lp lq (S.set i ((k + S[i] + c) % 1000000000)) ((k + S[i] + c) / 1000000000) (i + 1) := by
  have hS := h.lim S[i] (List.getElem_mem hi)
  have hk := h.carry
  have hl := h.len
  refine ⟨by simp [h.len], limbs_set h.lim i _ (Nat.mod_lt _ (by decide)), ?_, ?_, by omega, by omega⟩
  · intro j hj hij
    rw [List.getElem_set_ne (by omega)]
    exact h.rest j (by simpa using hj) (by omega)
  · have e1 := lval_set 1000000000 S i ((k + S[i] + c) % 1000000000) hi
    have e2 := h.val
    have e3 : k + S[i] + c = 1000000000 * ((k + S[i] + c) / 1000000000) + (k + S[i] + c) % 1000000000 := (Nat.div_add_mod _ _).symm
    generalize (k + S[i] + c) / 1000000000 = q at *
    generalize (k + S[i] + c) % 1000000000 = r at *
    rw [hcv, Nat.pow_succ]
    have e4 := congrArg (1000000000 ^ i * ·) e3
    simp only [Nat.mul_add] at e4
    have m1 : 1000000000 ^ i * 1000000000 * q = 1000000000 ^ i * (1000000000 * q) := Nat.mul_assoc _ _ _
    omega

/-- At the end nothing is carried. -/
theorem AddInv.last {lp lq S : List Nat} {k i : Nat} (h : AddInv lp lq S k i) (hp : limbs 1000000000 lp) (hq : limbs 1000000000 lq) (hl : lq.length ≤ lp.length) (hi : i = lp.length + 1) : k = 0 := by
  have h1 := lval_lt hp
  have h2 : lval 1000000000 (lq.take i) < 1000000000 ^ lp.length := by
    have := lval_lt (B := 1000000000) (l := lq.take i) (fun x hx => hq x (List.mem_of_mem_take hx))
    exact Nat.lt_of_lt_of_le this (Nat.pow_le_pow_right (by decide) (by rw [List.length_take]; omega))
  have h3 := h.val
  rw [hi, Nat.pow_succ] at h3
  rcases Nat.eq_zero_or_pos k with h0 | h0
  · exact h0
  · have : 1000000000 ^ lp.length * 1000000000 * 1 ≤ 1000000000 ^ lp.length * 1000000000 * k := Nat.mul_le_mul_left _ h0
    rw [hi] at h2
    omega

theorem AddInv.sum {lp lq S : List Nat} {i : Nat} (h : AddInv lp lq S 0 i) (hi : lq.length ≤ i) : lval 1000000000 S = lval 1000000000 lp + lval 1000000000 lq := by
  have := h.val
  rw [List.take_of_length_le hi] at this
  simpa using this
end Cub

namespace Cub

def cmpN (m n : Nat) : Int := if m < n then -1 else if n < m then 1 else 0

theorem toNat_lt_iff (a b : UInt8) : a < b ↔ a.toNat < b.toNat := UInt8.lt_iff_toNat_lt

theorem bytesLess_dval : ∀ (a b : List UInt8), digs a → digs b → a.length = b.length → Go.Op.bytesLess a b = decide (dval a < dval b) := by
  intro a
  induction a with
  | nil => intro b _ _ h; have : b = [] := List.length_eq_zero_iff.1 h.symm
           subst this; rfl
  | cons x a ih =>
    intro b ha hb hl
    cases b with
    | nil => simp at hl
    | cons y b =>
      have hx := ha x (by simp)
      have hy := hb y (by simp)
      have ha' : digs a := fun c hc => ha c (List.mem_cons_of_mem _ hc)
      have hb' : digs b := fun c hc => hb c (List.mem_cons_of_mem _ hc)
      have hl' : a.length = b.length := by simpa using hl
      have e := ih b ha' hb' hl'
      have l1 := dval_lt ha'
      have l2 := dval_lt hb'
      simp only [Go.Op.bytesLess]
      rw [e, dval_cons, dval_cons, ← hl']
      rw [← hl'] at l2
      rw [Bool.eq_iff_iff]
      simp only [Bool.or_eq_true, Bool.and_eq_true, decide_eq_true_eq, beq_iff_eq, toNat_lt_iff]
      constructor
      · rintro (h | ⟨h, h2⟩)
        · have : (x.toNat - 48 + 1) * 10 ^ a.length ≤ (y.toNat - 48) * 10 ^ a.length := Nat.mul_le_mul_right _ (by omega)
          rw [Nat.add_mul] at this; omega
        · subst h; omega
      · intro h
        by_cases hxy : x.toNat < y.toNat
        · exact Or.inl hxy
        · right
          by_cases he : x.toNat = y.toNat
          · refine ⟨?_, ?_⟩
            · rw [← ofNat_toNat x, ← ofNat_toNat y, he]
            · rw [he] at h; omega
          · exfalso
            have : (y.toNat - 48 + 1) * 10 ^ a.length ≤ (x.toNat - 48) * 10 ^ a.length := Nat.mul_le_mul_right _ (by omega)
            rw [Nat.add_mul] at this; omega

theorem dval_inj {a b : List UInt8} (ha : isNat a) (hb : isNat b) (h : dval a = dval b) : a = b := by
  rw [← dec_dval _ a rfl ha, ← dec_dval _ b rfl hb, h]

theorem len_lt_dval {a b : List UInt8} (ha : isNat a) (hb : isNat b) (h : a.length < b.length) : dval a < dval b := by
  have h1 := dval_lt ha.1
  have h2 : 0 < a.length := List.length_pos_iff.2 ha.2.1
  have h3 := isNat_pos hb (by omega)
  have h4 : 10 ^ a.length ≤ 10 ^ (b.length - 1) := Nat.pow_le_pow_right (by decide) (by omega)
  omega

/-- What parsing gives of digits. -/
theorem parseM (l : List UInt8) : ∀ acc, digs l → acc ≤ 18446744073709551615 →
    Go.Lib.parseUintM 18446744073709551615 acc l = if acc * 10 ^ l.length + dval l ≤ 18446744073709551615 then .ok (acc * 10 ^ l.length + dval l) else .range := by
  induction l with
  | nil => intro acc _ h; simp [Go.Lib.parseUintM, dval, h]
  | cons c l ih =>
    intro acc hd ha
    have hc := hd c (by simp)
    have hd' : digs l := fun x hx => hd x (List.mem_cons_of_mem _ hx)
    have hp : 1 ≤ 10 ^ l.length := Nat.one_le_pow _ _ (by decide)
    simp only [Go.Lib.parseUintM]
    rw [if_pos hc, dval_cons, List.length_cons]
    have e : acc * 10 ^ (l.length + 1) + ((c.toNat - 48) * 10 ^ l.length + dval l) = (acc * 10 + (c.toNat - 48)) * 10 ^ l.length + dval l := by
      rw [Nat.pow_succ, Nat.add_mul, Nat.mul_assoc acc 10, Nat.mul_comm 10 (10 ^ l.length)]; omega
    have hge : acc * 10 + (c.toNat - 48) ≤ (acc * 10 + (c.toNat - 48)) * 10 ^ l.length := Nat.le_mul_of_pos_right _ hp
    rw [e]
    by_cases h1 : 1844674407370955162 ≤ acc
    · rw [if_pos h1, if_neg (by omega)]
    · rw [if_neg h1]
      by_cases h2 : 18446744073709551615 < acc * 10 + (c.toNat - 48)
      · rw [if_pos h2, if_neg (by omega)]
      · rw [if_neg h2, ih _ hd' (by omega)]

theorem parse64 (l : List UInt8) (h : isNat l) : Go.Lib.parseUintB 64 l = if dval l ≤ 18446744073709551615 then .ok (dval l) else .range := by
  unfold Go.Lib.parseUintB
  rw [if_neg h.2.1]
  have := parseM l 0 h.1 (by omega)
  simpa using this
end Cub

namespace Cub

/-- In the one form: coprime, not over 0, no sign at 0. -/
structure Low (b : Bool) (n d : Nat) : Prop where
  pos : 0 < d
  cop : Nat.gcd n d = 1
  sign : b = true → n ≠ 0
/-- A size with its sign. -/
def sg (b : Bool) (n : Nat) : Int := if b then -(n : Int) else n
def valQ (b : Bool) (n d : Nat) : Rat := ((sg b n : Int) : Rat) / ((d : Nat) : Rat)
theorem sg_abs (b : Bool) (n : Nat) : (sg b n).natAbs = n := by cases b <;> simp [sg]
theorem sg_mul (b c : Bool) (n m : Nat) : sg b n * sg c m = sg (b != c) (n * m) := by
  cases b <;> cases c <;> simp [sg, Int.mul_neg, Int.neg_mul]
theorem sg_mulNat (b : Bool) (n m : Nat) : sg b n * (m : Int) = sg b (n * m) := by cases b <;> simp [sg, Int.neg_mul]
theorem sg_neg (b : Bool) (n : Nat) : sg (!b) n = -sg b n := by cases b <;> simp [sg]
theorem sg_zero (b : Bool) : sg b 0 = 0 := by cases b <;> rfl
theorem dR {d : Nat} (h : 0 < d) : ((d : Nat) : Rat) ≠ 0 := by
  have : d ≠ 0 := by omega
  exact_mod_cast this
theorem div_eq_iff {a b c d : Rat} (hb : b ≠ 0) (hd : d ≠ 0) : a / b = c / d ↔ a * d = c * b := by
  constructor
  · intro h; grind
  · intro h; grind
theorem valQ_eq {b b' : Bool} {n d n' d' : Nat} (hd : 0 < d) (hd' : 0 < d') : valQ b n d = valQ b' n' d' ↔ sg b n * (d' : Int) = sg b' n' * (d : Int) := by
  unfold valQ
  rw [div_eq_iff (dR hd) (dR hd')]
  constructor
  · intro h; exact_mod_cast h
  · intro h; exact_mod_cast h
theorem low_unique {b b' : Bool} {n d n' d' : Nat} (h : Low b n d) (h' : Low b' n' d') (e : valQ b n d = valQ b' n' d') : b = b' ∧ n = n' ∧ d = d' := by
  have e1 := (valQ_eq h.pos h'.pos).1 e
  have e2 : n * d' = n' * d := by
    have := congrArg Int.natAbs e1
    rw [Int.natAbs_mul, Int.natAbs_mul, sg_abs, sg_abs] at this
    simpa using this
  have d1 : d ∣ d' := by
    have : d ∣ n * d' := ⟨n', by rw [e2, Nat.mul_comm]⟩
    exact (Nat.Coprime.dvd_of_dvd_mul_left (Nat.Coprime.symm h.cop) this)
  have d2 : d' ∣ d := by
    have : d' ∣ n' * d := ⟨n, by rw [← e2, Nat.mul_comm]⟩
    exact (Nat.Coprime.dvd_of_dvd_mul_left (Nat.Coprime.symm h'.cop) this)
  have ed : d = d' := Nat.dvd_antisymm d1 d2
  subst ed
  have en : n = n' := Nat.eq_of_mul_eq_mul_right h.pos e2
  subst en
  refine ⟨?_, rfl, rfl⟩
  have e3 : sg b n = sg b' n := Int.eq_of_mul_eq_mul_right (by have := h.pos; omega) e1
  by_cases hn : n = 0
  · have hb : b = false := by cases b with | false => rfl | true => exact absurd hn (h.sign rfl)
    have hb' : b' = false := by cases b' with | false => rfl | true => exact absurd hn (h'.sign rfl)
    rw [hb, hb']
  · cases b <;> cases b' <;> first | rfl | (exfalso; simp [sg] at e3; omega)

/-- Both divided by what they share. -/
theorem lowest_cop {n d : Nat} (hd : 0 < d) : Nat.gcd (n / Nat.gcd n d) (d / Nat.gcd n d) = 1 ∧ 0 < d / Nat.gcd n d ∧ n / Nat.gcd n d * d = n * (d / Nat.gcd n d) := by
  have hg : 0 < Nat.gcd n d := Nat.gcd_pos_of_pos_right _ hd
  obtain ⟨a, ha⟩ := Nat.gcd_dvd_left n d
  obtain ⟨c, hc⟩ := Nat.gcd_dvd_right n d
  have h1 : n / Nat.gcd n d = a := by rw [Nat.div_eq_of_eq_mul_right hg ha]
  have h2 : d / Nat.gcd n d = c := by rw [Nat.div_eq_of_eq_mul_right hg hc]
  refine ⟨Nat.coprime_div_gcd_div_gcd hg, ?_, ?_⟩
  · rw [h2]
    rcases Nat.eq_zero_or_pos c with h | h
    · rw [h] at hc; omega
    · exact h
  · rw [h1, h2]
    generalize Nat.gcd n d = g at *
    rw [ha, hc]
    grind
/-- rat.Ratio. -/
theorem ratio_low {b : Bool} {n d : Nat} (hd : 0 < d) : Low (b && decide (n / Nat.gcd n d ≠ 0)) (n / Nat.gcd n d) (d / Nat.gcd n d) ∧ valQ (b && decide (n / Nat.gcd n d ≠ 0)) (n / Nat.gcd n d) (d / Nat.gcd n d) = valQ b n d := by
  obtain ⟨h1, h2, h3⟩ := lowest_cop (n := n) hd
  refine ⟨⟨h2, h1, fun h => by rw [Bool.and_eq_true, decide_eq_true_iff] at h; exact h.2⟩, ?_⟩
  rw [valQ_eq h2 hd]
  generalize n / Nat.gcd n d = a at *
  generalize d / Nat.gcd n d = c at *
  rw [sg_mulNat, sg_mulNat, h3]
  by_cases ha : a = 0
  · subst ha
    simp only [Nat.zero_mul] at h3
    rw [← h3, sg_zero, sg_zero]
  · simp [ha]
/-- rat.lowest where one of both is 1, or both share nothing: both stay. -/
theorem lowest_one {n d : Nat} (h : Nat.gcd n d = 1) : n / Nat.gcd n d = n ∧ d / Nat.gcd n d = d := by rw [h]; simp

/-- rat.times of two: each above against the other's below. -/
theorem mul_low {b c : Bool} {n d m e : Nat} (h : Low b n d) (k : Low c m e) :
    Low ((b != c) && decide (n / Nat.gcd n e * (m / Nat.gcd m d) ≠ 0)) (n / Nat.gcd n e * (m / Nat.gcd m d)) (d / Nat.gcd m d * (e / Nat.gcd n e)) ∧
      valQ ((b != c) && decide (n / Nat.gcd n e * (m / Nat.gcd m d) ≠ 0)) (n / Nat.gcd n e * (m / Nat.gcd m d)) (d / Nat.gcd m d * (e / Nat.gcd n e)) = valQ b n d * valQ c m e := by
  obtain ⟨p1, p2, p3⟩ := lowest_cop (n := n) k.pos
  obtain ⟨q1, q2, q3⟩ := lowest_cop (n := m) h.pos
  have hn : n / Nat.gcd n e ∣ n := Nat.div_dvd_of_dvd (Nat.gcd_dvd_left n e)
  have hm : m / Nat.gcd m d ∣ m := Nat.div_dvd_of_dvd (Nat.gcd_dvd_left m d)
  have hd : d / Nat.gcd m d ∣ d := Nat.div_dvd_of_dvd (Nat.gcd_dvd_right m d)
  have he : e / Nat.gcd n e ∣ e := Nat.div_dvd_of_dvd (Nat.gcd_dvd_right n e)
  have hk := k.pos
  have hh := h.pos
  have c1 : Nat.Coprime (n / Nat.gcd n e) (d / Nat.gcd m d) := Nat.Coprime.coprime_dvd_left hn (Nat.Coprime.coprime_dvd_right hd h.cop)
  have c2 : Nat.Coprime (m / Nat.gcd m d) (e / Nat.gcd n e) := Nat.Coprime.coprime_dvd_left hm (Nat.Coprime.coprime_dvd_right he k.cop)
  generalize n / Nat.gcd n e = n' at *
  generalize e / Nat.gcd n e = e' at *
  generalize m / Nat.gcd m d = m' at *
  generalize d / Nat.gcd m d = d' at *
  have hpos : 0 < d' * e' := Nat.mul_pos q2 p2
  refine ⟨⟨hpos, ?_, fun hs => by rw [Bool.and_eq_true, decide_eq_true_iff] at hs; exact hs.2⟩, ?_⟩
  · have a1 : Nat.Coprime n' (d' * e') := Nat.Coprime.mul_right c1 p1
    have a2 : Nat.Coprime m' (d' * e') := Nat.Coprime.mul_right q1 c2
    exact Nat.Coprime.mul_left a1 a2
  · have e1 : valQ b n d * valQ c m e = valQ (b != c) (n * m) (d * e) := by
      unfold valQ
      rw [← sg_mul]
      have x1 := dR hh
      have x2 := dR hk
      push_cast
      grind
    rw [e1, valQ_eq hpos (Nat.mul_pos hh hk), sg_mulNat, sg_mulNat]
    have e2 : n' * m' * (d * e) = n * m * (d' * e') := by
      have : (n' * e) * (m' * d) = (n * e') * (m * d') := by rw [p3, q3]
      grind
    rw [e2]
    by_cases h0 : n' * m' = 0
    · rw [h0, Nat.zero_mul] at e2
      rw [← e2, sg_zero, sg_zero]
    · simp [h0]
end Cub

namespace Cub

/-- The sum of two numbers, each with its sign. -/
def addSg (b : Bool) (x : Nat) (c : Bool) (y : Nat) : Bool × Nat := if b = c then (b, x + y) else if x < y then (c, y - x) else (b, x - y)
theorem addSg_val (b : Bool) (x : Nat) (c : Bool) (y : Nat) : sg (addSg b x c y).1 (addSg b x c y).2 = sg b x + sg c y := by
  unfold addSg
  by_cases h : b = c
  · subst h
    rw [if_pos rfl]
    cases b <;> simp [sg] <;> omega
  · rw [if_neg h]
    by_cases hx : x < y
    · rw [if_pos hx]
      cases b <;> cases c <;> simp [sg] at h ⊢ <;> omega
    · rw [if_neg hx]
      cases b <;> cases c <;> simp [sg] at h ⊢ <;> omega
theorem valQ_add {b c bb : Bool} {n d k e m : Nat} (hd : 0 < d) (he : 0 < e) (h : sg bb m = sg b (n * e) + sg c (k * d)) : valQ bb m (d * e) = valQ b n d + valQ c k e := by
  unfold valQ
  rw [h, ← sg_mulNat, ← sg_mulNat]
  have x1 := dR hd
  have x2 := dR he
  push_cast
  grind
theorem valQ_zero (b : Bool) (d : Nat) : valQ b 0 d = 0 := by
  unfold valQ
  rw [sg_zero, Rat.div_def]
  push_cast
  exact Rat.zero_mul _
theorem low_zero : Low false 0 1 := ⟨by omega, by simp, fun h => by cases h⟩
/-- One that divides both a sum's size and one part of it divides the other part. -/
theorem dvd_part {bb b c : Bool} {m x y k : Nat} (h : sg bb m = sg b x + sg c y) (hm : k ∣ m) (hy : k ∣ y) : k ∣ x := by
  have a1 : (k : Int) ∣ sg bb m := Int.ofNat_dvd_left.2 (by rw [sg_abs]; exact hm)
  have a2 : (k : Int) ∣ sg c y := Int.ofNat_dvd_left.2 (by rw [sg_abs]; exact hy)
  rw [h] at a1
  have a3 : (k : Int) ∣ sg b x := (Int.dvd_add_left a2).1 a1
  have a4 := Int.ofNat_dvd_left.1 a3
  rwa [sg_abs] at a4
theorem cop_of {x y : Nat} (h : ∀ k, k ∣ x → k ∣ y → k ∣ 1) : Nat.gcd x y = 1 := Nat.dvd_one.1 (h _ (Nat.gcd_dvd_left x y) (Nat.gcd_dvd_right x y))

/-- rat.Frac.Add: with s what both below share, f and g the rest of them, m the size above. -/
theorem add_low {b c : Bool} {n d k e : Nat} (h : Low b n d) (h' : Low c k e) {s f g m : Nat} {bb : Bool} (hs : s = Nat.gcd d e) (hf : f = d / s) (hg : g = e / s) (hm : (bb, m) = addSg b (n * g) c (k * f)) :
    (m / Nat.gcd m s = 0 → valQ b n d + valQ c k e = 0) ∧ (m / Nat.gcd m s ≠ 0 → Low bb (m / Nat.gcd m s) (s / Nat.gcd m s * f * g) ∧ valQ bb (m / Nat.gcd m s) (s / Nat.gcd m s * f * g) = valQ b n d + valQ c k e) := by
  have hd := h.pos
  have he := h'.pos
  have spos : 0 < s := by rw [hs]; exact Nat.gcd_pos_of_pos_left _ hd
  have sd : s ∣ d := by rw [hs]; exact Nat.gcd_dvd_left d e
  have se : s ∣ e := by rw [hs]; exact Nat.gcd_dvd_right d e
  have ed : d = s * f := by rw [hf]; exact (Nat.mul_div_cancel' sd).symm
  have ee : e = s * g := by rw [hg]; exact (Nat.mul_div_cancel' se).symm
  have cfg : Nat.Coprime f g := by rw [hf, hg, hs]; exact Nat.coprime_div_gcd_div_gcd (by rw [← hs]; exact spos)
  have hv : sg bb m = sg b (n * g) + sg c (k * f) := by
    have := addSg_val b (n * g) c (k * f)
    rw [← hm] at this
    exact this
  have fpos : 0 < f := by rcases Nat.eq_zero_or_pos f with h0 | h0; · rw [h0, Nat.mul_zero] at ed; omega
                          · exact h0
  have gpos : 0 < g := by rcases Nat.eq_zero_or_pos g with h0 | h0; · rw [h0, Nat.mul_zero] at ee; omega
                          · exact h0
  -- the sum over s * f * g
  have hsum : valQ bb m (s * f * g) = valQ b n d + valQ c k e := by
    have e1 : sg bb (m * s) = sg b (n * e) + sg c (k * d) := by
      rw [← sg_mulNat, hv, ee, ed, Int.add_mul, sg_mulNat, sg_mulNat]
      congr 2 <;> grind
    rw [← valQ_add hd he e1, valQ_eq (Nat.mul_pos (Nat.mul_pos spos fpos) gpos) (Nat.mul_pos hd he), sg_mulNat, sg_mulNat]
    congr 1
    rw [ed, ee]
    grind
  obtain ⟨q1, q2, q3⟩ := lowest_cop (n := m) spos
  have hgm : m / Nat.gcd m s ∣ m := Nat.div_dvd_of_dvd (Nat.gcd_dvd_left m s)
  refine ⟨fun h0 => ?_, fun h0 => ?_⟩
  · rw [h0] at hgm
    have : m = 0 := Nat.zero_dvd.1 hgm
    rw [← hsum, this, valQ_zero]
  · generalize m / Nat.gcd m s = m' at *
    generalize s / Nat.gcd m s = s' at *
    have pos' : 0 < s' * f * g := Nat.mul_pos (Nat.mul_pos q2 fpos) gpos
    refine ⟨⟨pos', ?_, fun _ => h0⟩, ?_⟩
    · have cf : Nat.Coprime m' f := cop_of fun t ht hf' => by
        have t1 : t ∣ n * g := dvd_part hv (Nat.dvd_trans ht hgm) (Nat.dvd_trans hf' (Nat.dvd_mul_left f k))
        have t2 : Nat.Coprime t n := Nat.Coprime.symm (Nat.Coprime.coprime_dvd_right (Nat.dvd_trans hf' ⟨s, by rw [ed, Nat.mul_comm]⟩) h.cop)
        have t3 : t ∣ g := Nat.Coprime.dvd_of_dvd_mul_left t2 t1
        have t4 := Nat.dvd_gcd hf' t3
        rw [cfg] at t4
        exact t4
      have cg : Nat.Coprime m' g := cop_of fun t ht hg' => by
        have t1 : t ∣ k * f := dvd_part (x := k * f) (y := n * g) (b := c) (c := b) (by rw [hv, Int.add_comm]) (Nat.dvd_trans ht hgm) (Nat.dvd_trans hg' (Nat.dvd_mul_left g n))
        have t2 : Nat.Coprime t k := Nat.Coprime.symm (Nat.Coprime.coprime_dvd_right (Nat.dvd_trans hg' ⟨s, by rw [ee, Nat.mul_comm]⟩) h'.cop)
        have t3 : t ∣ f := Nat.Coprime.dvd_of_dvd_mul_left t2 t1
        have t4 := Nat.dvd_gcd t3 hg'
        rw [cfg] at t4
        exact t4
      exact Nat.Coprime.mul_right (Nat.Coprime.mul_right q1 cf) cg
    · rw [← hsum, valQ_eq pos' (Nat.mul_pos (Nat.mul_pos spos fpos) gpos), sg_mulNat, sg_mulNat]
      congr 1
      have : m' * s * (f * g) = m * s' * (f * g) := by rw [q3]
      grind
/-- The document's sum: over the product of both below. -/
theorem refAdd_val {b c bb : Bool} {n d k e m : Nat} (h : Low b n d) (h' : Low c k e) (hm : (bb, m) = addSg b (n * e) c (k * d)) : valQ bb m (d * e) = valQ b n d + valQ c k e := by
  refine valQ_add h.pos h'.pos ?_
  have := addSg_val b (n * e) c (k * d)
  rw [← hm] at this
  exact this
/-- What is opposite; one divided by it. -/
theorem neg_low {b : Bool} {n d : Nat} (h : Low b n d) : Low (!b && decide (n ≠ 0)) n d ∧ valQ (!b && decide (n ≠ 0)) n d = -valQ b n d := by
  refine ⟨⟨h.pos, h.cop, fun hs => by rw [Bool.and_eq_true, decide_eq_true_iff] at hs; exact hs.2⟩, ?_⟩
  by_cases h0 : n = 0
  · subst h0; rw [valQ_zero, valQ_zero]; simp
  · simp only [h0, ne_eq, not_false_eq_true, decide_true, Bool.and_true]
    unfold valQ
    rw [sg_neg]
    push_cast
    grind
theorem inv_low {b : Bool} {n d : Nat} (h : Low b n d) (hn : n ≠ 0) : Low b d n ∧ valQ b d n = (valQ b n d)⁻¹ := by
  refine ⟨⟨by omega, by rw [Nat.gcd_comm]; exact h.cop, fun _ => by have := h.pos; omega⟩, ?_⟩
  have x1 := dR h.pos
  have x2 : ((n : Nat) : Rat) ≠ 0 := dR (by omega)
  unfold valQ sg
  cases b <;> simp only [Bool.false_eq_true, if_true, if_false] <;> push_cast <;> grind
theorem num_below (x : Rat) : x.num < 0 ↔ x < 0 := by
  have h := Rat.num_nonneg (q := x)
  constructor
  · intro h1
    exact Rat.not_le.1 fun h2 => by have := h.2 h2; omega
  · intro h1
    have : ¬ 0 ≤ x.num := fun h2 => Rat.not_le.2 h1 (h.1 h2)
    omega
/-- The one form of a rational number. -/
theorem low_of (x : Rat) : Low (decide (x < 0)) x.num.natAbs x.den ∧ valQ (decide (x < 0)) x.num.natAbs x.den = x := by
  have hs : sg (decide (x < 0)) x.num.natAbs = x.num := by
    unfold sg
    by_cases h : x < 0
    · have : x.num < 0 := (num_below x).2 h
      simp only [h, decide_true, if_true]; omega
    · have : ¬ x.num < 0 := fun h2 => h ((num_below x).1 h2)
      simp only [h, decide_false, Bool.false_eq_true, if_false]; omega
  refine ⟨⟨x.den_pos, x.reduced, fun h => ?_⟩, ?_⟩
  · have := (num_below x).2 (of_decide_eq_true h)
    omega
  · unfold valQ
    rw [hs, ← Rat.mkRat_eq_div, Rat.mkRat_self]
/-- So one in the one form is that of its value. -/
theorem low_is {b : Bool} {n d : Nat} (h : Low b n d) : b = decide (valQ b n d < 0) ∧ n = (valQ b n d).num.natAbs ∧ d = (valQ b n d).den :=
  low_unique h (low_of _).1 (low_of _).2.symm
theorem valQ_lt {b c : Bool} {n d m e : Nat} (hd : 0 < d) (he : 0 < e) : valQ b n d < valQ c m e ↔ sg b n * (e : Int) < sg c m * (d : Int) := by
  unfold valQ
  rw [Rat.div_lt_iff (Rat.natCast_pos.2 hd), Rat.div_def, show ((sg c m : Int) : Rat) * ((e : Nat) : Rat)⁻¹ * ((d : Nat) : Rat) = ((sg c m : Int) : Rat) * ((d : Nat) : Rat) / ((e : Nat) : Rat) by rw [Rat.div_def]; grind, Rat.lt_div_iff (Rat.natCast_pos.2 he)]
  constructor
  · intro h; exact_mod_cast h
  · intro h; exact_mod_cast h
/-- -1, 0, 1. -/
def cmpQ (x y : Rat) : Int := if x < y then -1 else if y < x then 1 else 0
/-- Frac.Sign. -/
theorem sign_val {b : Bool} {n d : Nat} (h : Low b n d) : (if b then -1 else if n = 0 then (0 : Int) else 1) = cmpQ (valQ b n d) 0 := by
  have hz : (0 : Rat) = valQ false 0 1 := (valQ_zero false 1).symm
  have hd := h.pos
  have hb := h.sign
  unfold cmpQ
  rw [hz]
  simp only [valQ_lt h.pos (show 0 < 1 by omega), valQ_lt (show 0 < 1 by omega) h.pos, sg_zero]
  cases b
  · by_cases hn : n = 0
    · subst hn; simp [sg]
    · have : 0 < n := by omega
      simp [sg, hn, this]
  · have : 0 < n := by have := hb rfl; omega
    simp [sg, this]
/-- Frac.Cmp where both have one sign: by the products across; -1, 0, 1 of natural numbers as cmpF. -/
def cmpF (x y : Nat) : Int := if x < y then -1 else if y < x then 1 else 0
theorem cmp_val {b c : Bool} {n d m e : Nat} (h : Low b n d) (h' : Low c m e) (hs : (if b then -1 else if n = 0 then (0 : Int) else 1) = (if c then -1 else if m = 0 then (0 : Int) else 1)) :
    (if b then -cmpF (n * e) (m * d) else cmpF (n * e) (m * d)) = cmpQ (valQ b n d) (valQ c m e) := by
  unfold cmpQ cmpF
  simp only [valQ_lt h.pos h'.pos, valQ_lt h'.pos h.pos, sg_mulNat]
  generalize n * e = p
  generalize m * d = q
  cases b <;> cases c <;> simp only [sg, Bool.false_eq_true, if_false, if_true] at hs ⊢
  · (repeat' split) <;> omega
  · exfalso
    split at hs <;> omega
  · exfalso
    split at hs <;> omega
  · (repeat' split) <;> omega
/-- Where the signs are not alike the order is theirs. -/
theorem cmp_signs (x y : Rat) (h : cmpQ x 0 ≠ cmpQ y 0) : cmpQ x y = if cmpQ x 0 < cmpQ y 0 then -1 else 1 := by
  unfold cmpQ at *
  grind
end Cub

namespace Cub
theorem takeB (B : Nat) (l : List Nat) (i : Nat) : lval B (l.take (i + 1)) = lval B (l.take i) + B ^ i * l.getD i 0 := by
  by_cases h : i < l.length
  · rw [List.take_succ_eq_append_getElem h, lval_snoc, List.length_take, Nat.min_eq_left (by omega)]
    simp [List.getD, h]
  · rw [List.take_of_length_le (by omega), List.take_of_length_le (by omega)]
    simp [List.getD, Nat.le_of_not_lt h]
end Cub

namespace Cub
/-- A list in the making, with what is carried to place p: together they are V. -/
structure Acc (B : Nat) (O : List Nat) (c p V : Nat) : Prop where
  lim : limbs B O
  val : lval B O + B ^ p * c = V

theorem Acc.step {B : Nat} {O : List Nat} {c p V : Nat} (h : Acc B O c p V) (hB : 0 < B) (hp : p < O.length) (t : Nat) :
    Acc B (O.set p ((c + O[p] + t) % B)) ((c + O[p] + t) / B) (p + 1) (V + B ^ p * t) := by
  refine ⟨limbs_set h.lim p _ (Nat.mod_lt _ hB), ?_⟩
  have e1 := lval_set B O p ((c + O[p] + t) % B) hp
  have e2 := h.val
  have e3 : c + O[p] + t = B * ((c + O[p] + t) / B) + (c + O[p] + t) % B := (Nat.div_add_mod _ _).symm
  generalize (c + O[p] + t) / B = q at *
  generalize (c + O[p] + t) % B = r at *
  have e4 := congrArg (B ^ p * ·) e3
  simp only [Nat.mul_add] at e4
  rw [Nat.pow_succ]
  have m1 : B ^ p * B * q = B ^ p * (B * q) := Nat.mul_assoc _ _ _
  omega

theorem Acc.none {B : Nat} {O : List Nat} {c p V : Nat} (h : Acc B O c p V) (hV : V < B ^ p) : c = 0 := by
  rcases Nat.eq_zero_or_pos c with h0 | h0
  · exact h0
  · have : B ^ p * 1 ≤ B ^ p * c := Nat.mul_le_mul_left _ h0
    have := h.val
    omega

theorem carry_lt (B c o x y : Nat) (hc : c < B) (ho : o < B) (hx : x < B) (hy : y < B) : (c + o + x * y) / B < B := by
  apply Nat.div_lt_of_lt_mul
  obtain ⟨b, rfl⟩ : ∃ b, B = b + 1 := ⟨B - 1, by omega⟩
  have h1 : x * y ≤ b * b := Nat.mul_le_mul (by omega) (by omega)
  have h2 : (b + 1) * (b + 1) = b * b + b + b + 1 := by rw [Nat.add_mul, Nat.mul_add]; omega
  omega
theorem carry_lt' (B c o : Nat) (hc : c < B) (ho : o < B) (hB : 2 ≤ B) : (c + o) / B < B := by
  apply Nat.div_lt_of_lt_mul
  have : B * 2 ≤ B * B := Nat.mul_le_mul_left _ hB
  omega

theorem get_zero {B : Nat} {O : List Nat} {p : Nat} (h : lval B O < B ^ p) (hp : p < O.length) : O[p] = 0 := by
  rcases Nat.eq_zero_or_pos O[p] with h0 | h0
  · exact h0
  · have e := lval_set B O p 0 hp
    have : B ^ p * 1 ≤ B ^ p * O[p] := Nat.mul_le_mul_left _ h0
    omega

theorem mul_lt (B : Nat) (x y : List Nat) (hx : limbs B x) (hy : limbs B y) (i : Nat) : lval B (x.take i) * lval B y < B ^ (i + y.length) ∨ B = 0 := by
  rcases Nat.eq_zero_or_pos B with h0 | h0
  · exact Or.inr h0
  · left
    have h1 := lval_lt (B := B) (l := x.take i) (fun z hz => hx z (List.mem_of_mem_take hz))
    have h2 := lval_lt hy
    have h3 : B ^ (x.take i).length ≤ B ^ i := Nat.pow_le_pow_right h0 (List.length_take_le _ _)
    rw [Nat.pow_add]
    exact Nat.mul_lt_mul'' (by omega) h2

theorem lval_zeros (B n : Nat) : lval B (List.replicate n 0) = 0 := by
  induction n with
  | zero => rfl
  | succ n ih => simp [List.replicate_succ, lval, ih]
theorem limbs_zeros (B n : Nat) (hB : 0 < B) : limbs B (List.replicate n 0) := fun x hx => by
  rw [List.mem_replicate] at hx; omega

/-- One more limb of y. -/
theorem val_inner (B a i k : Nat) (y : List Nat) (V : Nat) : V + B ^ i * (a * lval B (y.take k)) + B ^ (i + k) * (a * y.getD k 0) = V + B ^ i * (a * lval B (y.take (k + 1))) := by
  rw [takeB, Nat.mul_add, Nat.mul_add, Nat.pow_add]
  have : B ^ i * (a * (B ^ k * y.getD k 0)) = B ^ i * B ^ k * (a * y.getD k 0) := by
    rw [Nat.mul_left_comm a, ← Nat.mul_assoc]
  omega
theorem val_outer (B i : Nat) (x y : List Nat) : lval B (x.take i) * lval B y + B ^ i * (x.getD i 0 * lval B y) = lval B (x.take (i + 1)) * lval B y := by
  rw [takeB, Nat.add_mul, Nat.mul_assoc]
end Cub

namespace Cub
/-- After an even number of steps: x, y are what the steps make of x0, y0; the signs alternate; both ends stay at 0 or above. (After an odd number: the same with the columns exchanged.) -/
structure Ev (x0 y0 x y A B C D : Int) : Prop where
  ex : x = A * x0 + B * y0
  ey : y = C * x0 + D * y0
  sA : 0 ≤ A
  sB : B ≤ 0
  sC : C ≤ 0
  sD : 0 ≤ D
  det : A * D - B * C = 1
  p1 : 0 ≤ x + A
  p2 : 0 ≤ x + B
  r1 : 0 ≤ y + C
  r2 : 0 ≤ y + D
  bA : A ≤ 1000000000
  bB : -1000000000 ≤ B
  bC : -1000000000 ≤ C
  bD : D ≤ 1000000000
theorem Ev.start (x0 y0 : Int) (hx : 0 ≤ x0) (hy : 0 ≤ y0) : Ev x0 y0 x0 y0 1 0 0 1 := by
  constructor <;> omega
theorem sq_bound {C y : Int} (h0 : 0 ≤ C) (h1 : C ≤ y) (h2 : C * y < 1000000000000000000) : C ≤ 1000000000 := by
  apply Decidable.byContradiction
  intro hc
  have h3 : 1000000000 ≤ y := by omega
  have h4 : 1000000000 * 1000000000 ≤ C * y := Int.mul_le_mul (by omega) h3 (by omega) (by omega)
  omega
theorem Ev.step {x0 y0 x y A B C D q : Int} (h : Ev x0 y0 x y A B C D) (hq : 0 ≤ q) (a1 : q * (y + C) ≤ x + A) (a2 : x + A < q * (y + C) + (y + C)) (b1 : q * (y + D) ≤ x + B)
    (hx : x0 < 1000000000000000000) (hy : y0 < 1000000000000000000) : Ev y0 x0 y (x - q * y) D C (B - q * D) (A - q * C) := by
  have qD : 0 ≤ q * D := Int.mul_nonneg hq h.sD
  have qC : q * C ≤ 0 := Int.mul_nonpos_of_nonneg_of_nonpos hq h.sC
  have e1 : q * (y + C) = q * y + q * C := Int.mul_add ..
  have e2 : q * (y + D) = q * y + q * D := Int.mul_add ..
  have sA := h.sA; have sB := h.sB; have sC := h.sC; have sD := h.sD
  have ex := h.ex; have ey := h.ey; have det := h.det
  have r1 := h.r1; have r2 := h.r2
  have hy1 : 0 ≤ x - q * y := by omega
  have k1 : (A - q * C) * y - C * (x - q * y) = y0 := by
    have : (A - q * C) * y - C * (x - q * y) = A * y - C * x := by grind
    rw [this, ex, ey]
    have : A * (C * x0 + D * y0) - C * (A * x0 + B * y0) = (A * D - B * C) * y0 := by grind
    rw [this, det, Int.one_mul]
  have k2 : (q * D - B) * y + D * (x - q * y) = x0 := by
    have : (q * D - B) * y + D * (x - q * y) = D * x - B * y := by grind
    rw [this, ex, ey]
    have : D * (A * x0 + B * y0) - B * (C * x0 + D * y0) = (A * D - B * C) * x0 := by grind
    rw [this, det, Int.one_mul]
  have m1 : 0 ≤ -(C * (x - q * y)) := by
    have := Int.mul_nonpos_of_nonpos_of_nonneg sC hy1
    omega
  have m2 : 0 ≤ D * (x - q * y) := Int.mul_nonneg sD hy1
  have c1 : A - q * C ≤ 1000000000 := sq_bound (y := y) (by omega) (by omega) (by omega)
  have c2 : q * D - B ≤ 1000000000 := sq_bound (y := y) (by omega) (by omega) (by omega)
  refine ⟨?_, ?_, sD, sC, by omega, by omega, ?_, r2, r1, by omega, by omega, h.bD, h.bC, by omega, c1⟩
  · rw [ey]; omega
  · rw [ex, ey]; grind
  · have : D * (A - q * C) - C * (B - q * D) = A * D - B * C := by grind
    rw [this, det]
/-- The numbers themselves: what is left is not below 0, and below what divides. -/
theorem Ev.rest {x0 y0 x y A B C D q b c U P u v : Int} (h : Ev x0 y0 x y A B C D) (hq : 0 ≤ q) (a2 : x + A < q * (y + C) + (y + C)) (b1 : q * (y + D) ≤ x + B)
    (hb : b * U = x0 * P + u) (hc : c * U = y0 * P + v) (hu : 0 ≤ u) (hu2 : u ≤ P) (hv : 0 ≤ v) (hv2 : v ≤ P) (hP : 0 < P) (hU : 0 < U) :
    0 ≤ (A * b + B * c) - q * (C * b + D * c) ∧ (A * b + B * c) - q * (C * b + D * c) < C * b + D * c := by
  have qD : 0 ≤ q * D := Int.mul_nonneg hq h.sD
  have qC : q * C ≤ 0 := Int.mul_nonpos_of_nonneg_of_nonpos hq h.sC
  have sA := h.sA; have sB := h.sB; have sC := h.sC; have sD := h.sD
  have ex := h.ex; have ey := h.ey
  have e1 : U * ((A * b + B * c) - q * (C * b + D * c)) = (x - q * y) * P + (A - q * C) * u + (B - q * D) * v := by
    have : U * ((A * b + B * c) - q * (C * b + D * c)) = A * (b * U) + B * (c * U) - q * (C * (b * U) + D * (c * U)) := by grind
    rw [this, hb, hc, ex, ey]; grind
  have e2 : U * (C * b + D * c) = y * P + C * u + D * v := by
    have : U * (C * b + D * c) = C * (b * U) + D * (c * U) := by grind
    rw [this, hb, hc, ey]; grind
  have m1 : 0 ≤ (A - q * C) * u := Int.mul_nonneg (by omega) hu
  have m2 : (B - q * D) * P ≤ (B - q * D) * v := Int.mul_le_mul_of_nonpos_left (by omega) hv2
  have m3 : 0 ≤ ((x + B) - q * (y + D)) * P := Int.mul_nonneg (by omega) (by omega)
  have m4 : (x - q * y) * P + (B - q * D) * P = ((x + B) - q * (y + D)) * P := by grind
  have n1 : (A - q * C - C) * u ≤ (A - q * C - C) * P := Int.mul_le_mul_of_nonneg_left hu2 (by omega)
  have n2 : (B - q * D - D) * v ≤ 0 := Int.mul_nonpos_of_nonpos_of_nonneg (by omega) hv
  have n3 : ((x + A) - q * (y + C) - (y + C)) * P < 0 := Int.mul_neg_of_neg_of_pos (by omega) hP
  have n4 : (x - q * y) * P - y * P + (A - q * C - C) * P = ((x + A) - q * (y + C) - (y + C)) * P := by grind
  have n5 : (A - q * C - C) * u = (A - q * C) * u - C * u := by grind
  have n6 : (B - q * D - D) * v = (B - q * D) * v - D * v := by grind
  refine ⟨?_, ?_⟩
  · apply Decidable.byContradiction
    intro hn
    have : U * ((A * b + B * c) - q * (C * b + D * c)) < 0 := Int.mul_neg_of_pos_of_neg hU (by omega)
    omega
  · apply Decidable.byContradiction
    intro hn
    have h1 : U * (C * b + D * c) ≤ U * ((A * b + B * c) - q * (C * b + D * c)) := Int.mul_le_mul_of_nonneg_left (by omega) (by omega)
    omega
/-- A step of Euclid's keeps the greatest common divisor. -/
theorem gcd_step (b c q : Int) : Int.gcd c (b - q * c) = Int.gcd b c := by
  rw [Int.gcd_comm, Int.sub_eq_add_neg, ← Int.neg_mul, Int.gcd_add_mul_right_left]
end Cub

namespace Cub

/-- Steps of Euclid's on b0 and c0, told by what they make of the first digits x0 and y0. -/
structure LS (b0 c0 x0 y0 x y A B C D : Int) : Prop where
  ev : Ev x0 y0 x y A B C D ∨ Ev y0 x0 x y B A D C
  gcd : Int.gcd (A * b0 + B * c0) (C * b0 + D * c0) = Int.gcd b0 c0
  lo : 0 ≤ C * b0 + D * c0
  le : C * b0 + D * c0 ≤ A * b0 + B * c0
  now : (A = 1 ∧ B = 0 ∧ C = 0 ∧ D = 1) ∨ (A * b0 + B * c0 ≤ c0 ∧ C * b0 + D * c0 < c0)
  hx : x ≤ 1000000000000000000
  hy : y ≤ 1000000000000000000

theorem LS.start {b0 c0 x0 y0 : Int} (h1 : 0 ≤ c0) (h2 : c0 ≤ b0) (hx : 0 ≤ x0) (hy : 0 ≤ y0) (hx2 : x0 < 1000000000000000000) (hy2 : y0 < 1000000000000000000) : LS b0 c0 x0 y0 x0 y0 1 0 0 1 := by
  refine ⟨.inl (Ev.start x0 y0 hx hy), ?_, by omega, by omega, .inl ⟨rfl, rfl, rfl, rfl⟩, by omega, by omega⟩
  simp

theorem LS.bounds {b0 c0 x0 y0 x y A B C D : Int} (h : LS b0 c0 x0 y0 x y A B C D) :
    0 ≤ x + A ∧ 0 ≤ x + B ∧ 0 ≤ y + C ∧ 0 ≤ y + D ∧ (-1000000000 ≤ A ∧ A ≤ 1000000000) ∧ (-1000000000 ≤ B ∧ B ≤ 1000000000) ∧ (-1000000000 ≤ C ∧ C ≤ 1000000000) ∧ (-1000000000 ≤ D ∧ D ≤ 1000000000) ∧ 0 ≤ x ∧ 0 ≤ y ∧ ((0 ≤ A ∧ B ≤ 0) ∨ (A ≤ 0 ∧ 0 ≤ B)) ∧ ((0 ≤ C ∧ D ≤ 0) ∨ (C ≤ 0 ∧ 0 ≤ D)) := by
  rcases h.ev with h | h
  all_goals (
    have p1 := h.p1; have p2 := h.p2; have r1 := h.r1; have r2 := h.r2; have sA := h.sA; have sB := h.sB; have sC := h.sC; have sD := h.sD
    have bA := h.bA; have bB := h.bB; have bC := h.bC; have bD := h.bD
    omega)

theorem quo_facts {a b q : Int} (ha : 0 ≤ a) (hb : 0 ≤ b) (h0 : b ≠ 0) (hq : q = a / b) : 0 ≤ q ∧ q * b ≤ a ∧ a < q * b + b := by
  subst hq
  have h1 : 0 < b := by omega
  refine ⟨Int.ediv_nonneg ha hb, Int.ediv_mul_le a h0, ?_⟩
  have := Int.lt_ediv_add_one_mul_self a h1
  rw [Int.add_mul, Int.one_mul] at this
  exact this

theorem LS.step {b0 c0 x0 y0 x y A B C D q U P u v : Int} (h : LS b0 c0 x0 y0 x y A B C D) (e1 : y + C ≠ 0) (e2 : y + D ≠ 0) (hq1 : q = (x + A) / (y + C)) (hq2 : q = (x + B) / (y + D))
    (hx0 : x0 < 1000000000000000000) (hy0 : y0 < 1000000000000000000)
    (hb : b0 * U = x0 * P + u) (hc : c0 * U = y0 * P + v) (hu : 0 ≤ u) (hu2 : u ≤ P) (hv : 0 ≤ v) (hv2 : v ≤ P) (hP : 0 < P) (hU : 0 < U) :
    LS b0 c0 x0 y0 y (x - q * y) C D (A - q * C) (B - q * D) ∧ x - q * y < y ∧ 0 ≤ q := by
  obtain ⟨k1, k2, k3, k4, -, -, -, -, k5, k6, -, -⟩ := h.bounds
  obtain ⟨q0, f1, f2⟩ := quo_facts k1 k3 e1 hq1
  obtain ⟨-, g1, g2⟩ := quo_facts k2 k4 e2 hq2
  clear hq1 hq2
  have hN : (A - q * C) * b0 + (B - q * D) * c0 = (A * b0 + B * c0) - q * (C * b0 + D * c0) := by grind
  have E1 : q * (y + C) = q * y + q * C := Int.mul_add ..
  have E2 : q * (y + D) = q * y + q * D := Int.mul_add ..
  have hmain : (Ev x0 y0 y (x - q * y) C D (A - q * C) (B - q * D) ∨ Ev y0 x0 y (x - q * y) D C (B - q * D) (A - q * C)) ∧ (0 ≤ (A * b0 + B * c0) - q * (C * b0 + D * c0) ∧ (A * b0 + B * c0) - q * (C * b0 + D * c0) < C * b0 + D * c0) ∧ x - q * y < y := by
    rcases h.ev with h | h
    · refine ⟨.inr (h.step q0 f1 f2 g1 hx0 hy0), h.rest q0 f2 g1 hb hc hu hu2 hv hv2 hP hU, ?_⟩
      have sA := h.sA; have sC := h.sC
      have := Int.mul_nonpos_of_nonneg_of_nonpos q0 sC
      omega
    · refine ⟨.inl (h.step q0 g1 g2 f1 hy0 hx0), ?_, ?_⟩
      · have := h.rest q0 g2 f1 hc hb hv hv2 hu hu2 hP hU
        rw [Int.add_comm (B * c0), Int.add_comm (D * c0)] at this
        exact this
      · have sB := h.sA; have sD := h.sC
        have := Int.mul_nonpos_of_nonneg_of_nonpos q0 sD
        omega
  obtain ⟨m1, ⟨m2, m3⟩, m4⟩ := hmain
  refine ⟨⟨m1, ?_, by omega, by omega, .inr ?_, h.hy, by have := h.hy; omega⟩, m4, q0⟩
  · rw [hN, gcd_step]; exact h.gcd
  · rw [hN]
    rcases h.now with ⟨rfl, rfl, rfl, rfl⟩ | ⟨n1, n2⟩
    · omega
    · omega

/-- What stands behind the steps: sizes, and products that the machine works out. -/
theorem LS.products {b0 c0 x0 y0 x y A B C D q : Int} (h : LS b0 c0 x0 y0 x y A B C D) (h' : LS b0 c0 x0 y0 y (x - q * y) C D (A - q * C) (B - q * D)) (q0 : 0 ≤ q) :
    (-2000000000 ≤ q * C ∧ q * C ≤ 2000000000) ∧ (-2000000000 ≤ q * D ∧ q * D ≤ 2000000000) ∧ 0 ≤ q * y ∧ q * y ≤ 1000000000000000000 := by
  obtain ⟨-, -, -, -, a1, a2, a3, a4, k5, k6, -, -⟩ := h.bounds
  obtain ⟨-, -, -, -, b1, b2, b3, b4, l5, l6, -, -⟩ := h'.bounds
  have := Int.mul_nonneg q0 k6
  have := h.hx
  omega

/-- One row out of two: times one number and more times another. -/
structure TG (lb lc S : List Nat) (t m k : Int) (i : Nat) : Prop where
  len : S.length = lb.length
  limbs : limbs 1000000000 S
  eq : (lval 1000000000 (S.take i) : Int) + k * (1000000000 ^ i : Nat) = t * (lval 1000000000 (lb.take i) : Nat) + m * (lval 1000000000 (lc.take i) : Nat)
  k1 : -1000000000 ≤ k
  k2 : k ≤ 999999999

theorem TG.start (lb lc : List Nat) (t m : Int) : TG lb lc (List.replicate lb.length 0) t m 0 0 := by
  refine ⟨by simp, ?_, by simp [lval], by omega, by omega⟩
  intro x hx
  have := List.eq_of_mem_replicate hx
  omega

theorem opp_bound {t m x z : Int} (ht : -1000000000 ≤ t ∧ t ≤ 1000000000) (hm : -1000000000 ≤ m ∧ m ≤ 1000000000) (hs : (0 ≤ t ∧ m ≤ 0) ∨ (t ≤ 0 ∧ 0 ≤ m)) (hx : 0 ≤ x ∧ x ≤ 999999999) (hz : 0 ≤ z ∧ z ≤ 999999999) :
    -999999999000000000 ≤ t * x + m * z ∧ t * x + m * z ≤ 999999999000000000 ∧ (-999999999000000000 ≤ t * x ∧ t * x ≤ 999999999000000000) ∧ (-999999999000000000 ≤ m * z ∧ m * z ≤ 999999999000000000) := by
  have pos : ∀ {a b : Int}, 0 ≤ a → a ≤ 1000000000 → 0 ≤ b → b ≤ 999999999 → 0 ≤ a * b ∧ a * b ≤ 999999999000000000 := by
    intro a b h1 h2 h3 h4
    have := Int.mul_le_mul h2 h4 h3 (by omega)
    exact ⟨Int.mul_nonneg h1 h3, by omega⟩
  rcases hs with ⟨s1, s2⟩ | ⟨s1, s2⟩
  · have p := pos s1 ht.2 hx.1 hx.2
    have n := pos (a := -m) (b := z) (by omega) (by omega) hz.1 hz.2
    rw [Int.neg_mul] at n
    omega
  · have p := pos s2 hm.2 hz.1 hz.2
    have n := pos (a := -t) (b := x) (by omega) (by omega) hx.1 hx.2
    rw [Int.neg_mul] at n
    omega

theorem take_getD (l : List Nat) (i : Nat) : lval 1000000000 (l.take (i + 1)) = lval 1000000000 (l.take i) + 1000000000 ^ i * l.getD i 0 := by
  by_cases h : i < l.length
  · rw [take_val l i h]; simp [List.getD, h]
  · rw [take_val' l i (by omega)]; simp [List.getD, List.getElem?_eq_none (Nat.le_of_not_lt h)]

theorem TG.step {lb lc S : List Nat} {t m k s : Int} {i : Nat} (h : TG lb lc S t m k i) (hi : i < lb.length) (hs : s = k + 1000000000000000000 + t * (lb.getD i 0 : Nat) + m * (lc.getD i 0 : Nat))
    (s0 : 0 ≤ s) (s1 : s ≤ 1999999999999999999) : TG lb lc (S.set i (s % 1000000000).toNat) t m (s / 1000000000 - 1000000000) (i + 1) := by
  have hlen := h.len
  have hm0 : 0 ≤ s % 1000000000 := Int.emod_nonneg _ (by decide)
  have hm1 : s % 1000000000 < 1000000000 := Int.emod_lt_of_pos _ (by decide)
  refine ⟨by rw [List.length_set]; exact h.len, limbs_set h.limbs _ _ (by omega), ?_, by omega, by omega⟩
  have e1 : lval 1000000000 ((S.set i (s % 1000000000).toNat).take (i + 1)) = lval 1000000000 (S.take i) + 1000000000 ^ i * (s % 1000000000).toNat := by
    rw [take_val _ i (by rw [List.length_set]; omega)]
    rw [List.getElem_set_self, List.take_set_of_le (Nat.le_refl _)]
  rw [e1, take_getD lb i, take_getD lc i]
  have e := h.eq
  have ed : s = 1000000000 * (s / 1000000000) + s % 1000000000 := (Int.mul_ediv_add_emod s 1000000000).symm
  have e2 : (((s % 1000000000).toNat : Nat) : Int) = s % 1000000000 := Int.toNat_of_nonneg hm0
  generalize lb.getD i 0 = xb at *
  generalize lc.getD i 0 = xc at *
  generalize lval 1000000000 (S.take i) = vs at *
  generalize lval 1000000000 (lb.take i) = vb at *
  generalize lval 1000000000 (lc.take i) = vc at *
  rw [Nat.pow_succ]
  generalize (1000000000 : Nat) ^ i = p at *
  simp only [Int.natCast_add, Int.natCast_mul, e2, show ((1000000000 : Nat) : Int) = 1000000000 from rfl]
  generalize s / 1000000000 = d at *
  generalize s % 1000000000 = r at *
  have : (vs : Int) + p * r + (d - 1000000000) * (p * 1000000000) = (vs + k * p) + p * ((1000000000 * d + r) - k - 1000000000000000000) := by grind
  rw [this, ← ed, e, hs]
  grind

theorem TG.done {lb lc S : List Nat} {t m k : Int} {i : Nat} (h : TG lb lc S t m k i) (hi : i = lb.length) (hl : lc.length ≤ lb.length) (N : Nat)
    (hN : (N : Int) = t * (lval 1000000000 lb : Nat) + m * (lval 1000000000 lc : Nat)) (hle : N < 1000000000 ^ lb.length) : lval 1000000000 S = N := by
  subst hi
  have e := h.eq
  rw [List.take_of_length_le (by rw [h.len]; exact Nat.le_refl _), List.take_of_length_le (Nat.le_refl _), List.take_of_length_le hl, ← hN] at e
  have hS := lval_lt h.limbs
  rw [h.len] at hS
  generalize lval 1000000000 S = vs at *
  generalize (1000000000 : Nat) ^ lb.length = p at *
  have k0 : k = 0 := by
    rcases Int.lt_trichotomy k 0 with hk | hk | hk
    · have : k * (p : Int) ≤ -1 * (p : Int) := Int.mul_le_mul_of_nonneg_right (by omega) (by omega)
      omega
    · exact hk
    · have : 1 * (p : Int) ≤ k * (p : Int) := Int.mul_le_mul_of_nonneg_right (by omega) (by omega)
      omega
  rw [k0, Int.zero_mul] at e
  omega

/-- The first digits of a row of three limbs or more, the row moved up. -/
theorem first_digits (low : List Nat) (p q r up e : Nat) (hl : limbs 1000000000 low) (hue : up * e = 1000000000) :
    ∃ u, lval 1000000000 (low ++ [p, q, r]) * up = ((r * 1000000000 + q) * up + p / e) * 1000000000 ^ (low.length + 1) + u ∧ u < 1000000000 ^ (low.length + 1) := by
  have hv := lval_lt hl
  have he : 0 < e := by rcases Nat.eq_zero_or_pos e with h | h; · rw [h] at hue; omega
                        · exact h
  have hu : 0 < up := by rcases Nat.eq_zero_or_pos up with h | h; · rw [h] at hue; omega
                         · exact h
  refine ⟨up * (lval 1000000000 low + 1000000000 ^ low.length * (p % e)), ?_, ?_⟩
  · rw [lval_append]
    have e3 : lval 1000000000 [p, q, r] = p + 1000000000 * (q + 1000000000 * r) := by simp [lval]
    rw [e3, Nat.pow_succ]
    generalize lval 1000000000 low = v at *
    generalize (1000000000 : Nat) ^ low.length = b at *
    have hp := Nat.div_add_mod p e
    generalize p / e = d at *
    generalize p % e = m at *
    rw [← hp]
    have : (v + b * (e * d + m + 1000000000 * (q + 1000000000 * r))) * up = (r * 1000000000 + q) * up * (b * 1000000000) + (up * e) * (b * d) + up * (v + b * m) := by grind
    rw [this, hue]
    grind
  · have hm : p % e < e := Nat.mod_lt _ he
    rw [Nat.pow_succ]
    generalize lval 1000000000 low = v at *
    generalize (1000000000 : Nat) ^ low.length = b at *
    generalize p % e = m at *
    have h1 : v + b * m < b * e := by
      have : b * m + b ≤ b * e := by rw [← Nat.mul_succ]; exact Nat.mul_le_mul_left _ hm
      omega
    have h2 : up * (v + b * m) < up * (b * e) := Nat.mul_lt_mul_of_pos_left h1 hu
    have h3 : up * (b * e) = b * (up * e) := by grind
    rw [hue] at h3
    omega
end Cub

namespace Cub
open Go.Lib

theorem getD9_lt {l : List Nat} (h : limbs 1000000000 l) (i : Nat) : l.getD i 0 < 1000000000 := by
  by_cases hq : i < l.length
  · rw [List.getD_eq_getElem?_getD, List.getElem?_eq_getElem hq]; exact h _ (List.getElem_mem hq)
  · rw [List.getD_eq_getElem?_getD, List.getElem?_eq_none (by omega)]; decide

theorem split3 (L : List Nat) (t : Nat) (h : L.length = t + 3) : L = L.take t ++ [L.getD t 0, L.getD (t + 1) 0, L.getD (t + 2) 0] := by
  have e1 := List.take_append_drop t L
  have e2 : L.drop t = [L.getD t 0, L.getD (t + 1) 0, L.getD (t + 2) 0] := by
    rw [List.drop_eq_getElem_cons (by omega), List.drop_eq_getElem_cons (by omega), List.drop_eq_getElem_cons (by omega), List.drop_of_length_le (by omega)]
    simp [List.getD, show t < L.length by omega, show t + 1 < L.length by omega, show t + 2 < L.length by omega]
  rw [e2] at e1
  exact e1.symm

theorem first_of (l : List Nat) (t up e f : Nat) (hl : limbs 1000000000 l) (hlen : l.length ≤ t + 3) (hue : up * e = 1000000000) (hV : lval 1000000000 l * up < 1000000000 ^ (t + 3))
    (hf : f = (l.getD (t + 2) 0 * 1000000000 + l.getD (t + 1) 0) * up + l.getD t 0 / e) :
    (∃ u, lval 1000000000 l * up = f * 1000000000 ^ (t + 1) + u ∧ u < 1000000000 ^ (t + 1)) ∧ f < 1000000000000000000 := by
  obtain ⟨L, hL⟩ : ∃ L, L = l ++ List.replicate (t + 3 - l.length) 0 := ⟨_, rfl⟩
  have hLl : L.length = t + 3 := by rw [hL]; simp; omega
  have hLv : lval 1000000000 L = lval 1000000000 l := by rw [hL, lval_append, lval_zeros, Nat.mul_zero, Nat.add_zero]
  have hLb : limbs 1000000000 L := by rw [hL]; exact limbs_append.2 ⟨hl, limbs_zeros _ _ (by decide)⟩
  have hg : ∀ i, L.getD i 0 = l.getD i 0 := fun i => by
    rw [hL]
    by_cases hi : i < l.length
    · simp [List.getD, List.getElem?_append_left hi]
    · simp only [List.getD]
      rw [List.getElem?_append_right (by omega), List.getElem?_eq_none (l := l) (by omega), List.getElem?_replicate]
      split <;> rfl
  obtain ⟨u, hu1, hu2⟩ := first_digits (L.take t) (L.getD t 0) (L.getD (t + 1) 0) (L.getD (t + 2) 0) up e (fun x hx => hLb x (List.mem_of_mem_take hx)) hue
  rw [← split3 L t hLl, hLv, hg, hg, hg, ← hf, List.length_take, hLl, Nat.min_eq_left (by omega)] at hu1
  rw [List.length_take, hLl, Nat.min_eq_left (by omega)] at hu2
  refine ⟨⟨u, hu1, hu2⟩, ?_⟩
  have h1 : f * 1000000000 ^ (t + 1) < 1000000000000000000 * 1000000000 ^ (t + 1) := by
    have e3 : (1000000000 : Nat) ^ (t + 3) = 1000000000000000000 * 1000000000 ^ (t + 1) := by
      rw [show t + 3 = (t + 1) + 2 by omega, Nat.pow_add, Nat.mul_comm]
    rw [← e3]
    omega
  exact Nat.lt_of_mul_lt_mul_right h1

/-- How far a number is moved up so that its first limb has nine digits. -/
theorem up_of {l : List Nat} {t : Nat} (h : normal 1000000000 l) (hl : l.length = t + 3) : ∃ d, 9 * (t + 3) = nDigits (lval 1000000000 l) + d ∧ d ≤ 8 ∧ lval 1000000000 l * 10 ^ d < 1000000000 ^ (t + 3) := by
  obtain ⟨s, x, rfl⟩ := split_last (l := l) (by intro e; rw [e] at hl; simp at hl)
  obtain ⟨h1, h2, h3⟩ := normal_last h
  have e := nDigits_top s x h1 h2
  have h9 := nDigits_le9 x h3
  have h0 : 1 ≤ nDigits x := by
    have := decDigits_length x
    have h' : (decDigits x).length ≠ 0 := fun e => dec_ne_nil x (List.length_eq_zero_iff.1 e)
    omega
  have hsl : s.length = t + 2 := by simpa using hl
  refine ⟨9 - nDigits x, by rw [e, hsl]; omega, by omega, ?_⟩
  have hlt := lt_pow_nDigits (lval 1000000000 (s ++ [x]))
  have hp : 0 < 10 ^ (9 - nDigits x) := Nat.pow_pos (by decide)
  have h4 := Nat.mul_lt_mul_of_pos_right hlt hp
  rw [← Nat.pow_add, e, hsl] at h4
  rw [← pow9, show 9 * (t + 3) = 9 * (t + 2) + nDigits x + (9 - nDigits x) by omega]
  exact h4

/-- What the steps have made, where there are any. -/
def Good (b c : Nat) (A B C D : Int) : Prop :=
  (-1000000000 ≤ A ∧ A ≤ 1000000000) ∧ (-1000000000 ≤ B ∧ B ≤ 1000000000) ∧ (-1000000000 ≤ C ∧ C ≤ 1000000000) ∧ (-1000000000 ≤ D ∧ D ≤ 1000000000) ∧ ((0 ≤ A ∧ B ≤ 0) ∨ (A ≤ 0 ∧ 0 ≤ B)) ∧ ((0 ≤ C ∧ D ≤ 0) ∨ (C ≤ 0 ∧ 0 ≤ D)) ∧
  (¬ B = 0 → ∃ N M : Nat, (N : Int) = A * (b : Int) + B * (c : Int) ∧ (M : Int) = C * (b : Int) + D * (c : Int) ∧ N ≤ c ∧ M ≤ N ∧ M < c ∧ Nat.gcd N M = Nat.gcd b c)

theorem LS.good {b c : Nat} {x0 y0 x y A B C D : Int} (h : LS (b : Int) (c : Int) x0 y0 x y A B C D) : Good b c A B C D := by
  obtain ⟨-, -, -, -, k1, k2, k3, k4, -, -, s1, s2⟩ := h.bounds
  refine ⟨k1, k2, k3, k4, s1, s2, fun hB => ?_⟩
  rcases h.now with ⟨_, hB', _⟩ | ⟨n1, n2⟩
  · exact absurd hB' hB
  · have lo := h.lo; have le := h.le; have g := h.gcd
    obtain ⟨N, hN⟩ := Int.eq_ofNat_of_zero_le (Int.le_trans lo le)
    obtain ⟨M, hM⟩ := Int.eq_ofNat_of_zero_le lo
    rw [hN, hM] at g
    refine ⟨N, M, hN.symm, hM.symm, by omega, by omega, by omega, ?_⟩
    simpa using g
end Cub

namespace Cub
theorem lval_cut (B : Nat) (l : List Nat) (k : Nat) (hk : k ≤ l.length) : lval B l = lval B (l.take k) + B ^ k * lval B (l.drop k) := by
  have e := lval_append B (l.take k) (l.drop k)
  rw [List.take_append_drop, List.length_take, Nat.min_eq_left hk] at e
  exact e
/-- Where the number is small the limbs above are noughts. -/
theorem drop_none {B : Nat} {l : List Nat} {k : Nat} (hk : k ≤ l.length) (h : lval B l < B ^ k) : lval B (l.drop k) = 0 ∧ lval B (l.take k) = lval B l := by
  have e := lval_cut B l k hk
  have h0 : lval B (l.drop k) = 0 := by
    rcases Nat.eq_zero_or_pos (lval B (l.drop k)) with h1 | h1
    · exact h1
    · have : B ^ k * 1 ≤ B ^ k * lval B (l.drop k) := Nat.mul_le_mul_left _ h1
      omega
  rw [h0, Nat.mul_zero] at e
  exact ⟨h0, by omega⟩
theorem limbs_take {B : Nat} {l : List Nat} (h : limbs B l) (k : Nat) : limbs B (l.take k) := fun x hx => h x (List.mem_of_mem_take hx)
theorem limbs_drop {B : Nat} {l : List Nat} (h : limbs B l) (k : Nat) : limbs B (l.drop k) := fun x hx => h x (List.mem_of_mem_drop hx)

/-- How far the division has come: from place j on the digits are found. -/
structure LongInv (M Y nr nd : Nat) (R D : List Nat) (j : Nat) : Prop where
  lenR : R.length = nr
  lenD : D.length = nd
  limR : limbs 1000000000 R
  limD : limbs 1000000000 D
  low : ∀ k, k < j → D.getD k 0 = 0
  sum : lval 1000000000 R + Y * lval 1000000000 D = M
  lt : lval 1000000000 R < Y * 1000000000 ^ j

/-- The window at a place: its number, and the digit that belongs there. -/
theorem LongInv.window {M Y nr nd nc : Nat} {R D : List Nat} {t : Nat} (h : LongInv M Y nr nd R D (t + 1)) (hY : Y < 1000000000 ^ nc) (hy : 0 < Y) (ht : t + nc + 1 ≤ nr) :
    lval 1000000000 ((R.drop t).take (nc + 1)) = lval 1000000000 (R.drop t) ∧ lval 1000000000 ((R.drop t).take (nc + 1)) / Y < 1000000000 ∧ lval 1000000000 (R.drop (t + nc + 1)) = 0 := by
  have hl : R.length = nr := h.lenR
  have e := lval_cut 1000000000 R t (by omega)
  have h1 := h.lt
  have hW : lval 1000000000 (R.drop t) < Y * 1000000000 := by
    apply Decidable.byContradiction
    intro hc
    have h2 : 1000000000 ^ t * (Y * 1000000000) ≤ 1000000000 ^ t * lval 1000000000 (R.drop t) := Nat.mul_le_mul_left _ (by omega)
    have h3 : 1000000000 ^ t * (Y * 1000000000) = Y * 1000000000 ^ (t + 1) := by rw [Nat.pow_succ, Nat.mul_left_comm]
    omega
  have hW2 : lval 1000000000 (R.drop t) < 1000000000 ^ (nc + 1) := by
    rw [Nat.pow_succ]
    exact Nat.lt_of_lt_of_le hW (Nat.mul_le_mul_right _ (Nat.le_of_lt hY))
  obtain ⟨d1, d2⟩ := drop_none (by rw [List.length_drop]; omega) hW2
  refine ⟨d2, ?_, ?_⟩
  · rw [d2, Nat.div_lt_iff_lt_mul hy, Nat.mul_comm]; exact hW
  · rw [List.drop_drop] at d1; rw [Nat.add_assoc]; exact d1

/-- One digit more. -/
theorem LongInv.step {M Y nr nd nc : Nat} {R D F : List Nat} {t q : Nat} (h : LongInv M Y nr nd R D (t + 1)) (hY : Y < 1000000000 ^ nc) (hy : 0 < Y) (ht : t + nc + 1 ≤ nr) (htd : t < nd)
    (hF : F.length = nc + 1) (hlF : limbs 1000000000 F) (hv : lval 1000000000 F + q * Y = lval 1000000000 ((R.drop t).take (nc + 1))) (hq : q = lval 1000000000 ((R.drop t).take (nc + 1)) / Y) :
    LongInv M Y nr nd (R.take t ++ (F ++ R.drop (t + nc + 1))) (D.set t q) t := by
  obtain ⟨w1, w2, w3⟩ := h.window hY hy ht
  have hl : R.length = nr := h.lenR
  have hqB : q < 1000000000 := by rw [hq]; exact w2
  have hFY : lval 1000000000 F < Y := by
    have h1 := Nat.div_add_mod (lval 1000000000 ((R.drop t).take (nc + 1))) Y
    have h2 := Nat.mod_lt (lval 1000000000 ((R.drop t).take (nc + 1))) hy
    rw [← hq, Nat.mul_comm] at h1
    omega
  have eR := lval_cut 1000000000 R t (by omega)
  have eN : lval 1000000000 (R.take t ++ (F ++ R.drop (t + nc + 1))) = lval 1000000000 (R.take t) + 1000000000 ^ t * lval 1000000000 F := by
    rw [lval_append, lval_append, w3, Nat.mul_zero, Nat.add_zero, List.length_take, Nat.min_eq_left (by omega)]
  have eD := lval_set 1000000000 D t q (by rw [h.lenD]; exact htd)
  have hD0 : D[t]'(by rw [h.lenD]; exact htd) = 0 := by
    have := h.low t (by omega)
    rw [List.getD_eq_getElem?_getD, List.getElem?_eq_getElem (by rw [h.lenD]; exact htd)] at this
    simpa using this
  rw [hD0, Nat.mul_zero, Nat.add_zero] at eD
  refine ⟨?_, by rw [List.length_set]; exact h.lenD, limbs_append.2 ⟨limbs_take h.limR _, limbs_append.2 ⟨hlF, limbs_drop h.limR _⟩⟩, limbs_set h.limD _ _ hqB, fun k hk => ?_, ?_, ?_⟩
  · simp [List.length_take, List.length_drop]; omega
  · have := h.low k (by omega)
    rw [List.getD_eq_getElem?_getD] at this ⊢
    rw [List.getElem?_set_ne (by omega)]; exact this
  · have hs := h.sum
    rw [eN, eD, ← hs, eR, ← w1, ← hv, Nat.mul_add, Nat.mul_add]
    have m1 : Y * (1000000000 ^ t * q) = 1000000000 ^ t * (q * Y) := by rw [Nat.mul_left_comm, Nat.mul_comm Y q]
    omega
  · rw [eN]
    have h1 : lval 1000000000 (R.take t) < 1000000000 ^ t := by
      have := lval_lt (limbs_take h.limR t)
      rwa [List.length_take, Nat.min_eq_left (by omega)] at this
    have h2 : 1000000000 ^ t * (lval 1000000000 F + 1) ≤ 1000000000 ^ t * Y := Nat.mul_le_mul_left _ hFY
    rw [Nat.mul_add, Nat.mul_one] at h2
    rw [Nat.mul_comm Y]
    omega
theorem LongInv.last {M Y nr nd : Nat} {R D : List Nat} (h : LongInv M Y nr nd R D 0) (_hy : 0 < Y) : lval 1000000000 D = M / Y ∧ lval 1000000000 R = M % Y := by
  have h1 := h.sum
  have h2 := h.lt
  rw [Nat.pow_zero, Nat.mul_one] at h2
  rw [← h1]
  refine ⟨?_, ?_⟩
  · rw [Nat.add_mul_div_left _ _ (by omega), Nat.div_eq_of_lt h2, Nat.zero_add]
  · rw [Nat.add_mul_mod_self_left, Nat.mod_eq_of_lt h2]
/-- The first guess is not too few. -/
theorem guess_bound {nc : Nat} {W Y : List Nat} {q : Nat} (hn : 2 ≤ nc) (hW : W.length = nc + 1) (hY : Y.length = nc) (hlW : limbs 1000000000 W) (_hlY : limbs 1000000000 Y) (hq : q * lval 1000000000 Y ≤ lval 1000000000 W) :
    q * Y.getD (nc - 1) 0 ≤ W.getD nc 0 * 1000000000 + W.getD (nc - 1) 0 ∧
    q * (Y.getD (nc - 1) 0 * 1000000000 + Y.getD (nc - 2) 0) ≤ (W.getD nc 0 * 1000000000 + W.getD (nc - 1) 0) * 1000000000 + W.getD (nc - 2) 0 := by
  obtain ⟨p, rfl⟩ : ∃ p, nc = p + 2 := ⟨nc - 2, by omega⟩
  rw [show p + 2 - 1 = p + 1 by omega, show p + 2 - 2 = p by omega]
  have cut2 (l : List Nat) (k : Nat) (hk : l.length = p + k) : lval 1000000000 l = lval 1000000000 (l.take p) + 1000000000 ^ p * lval 1000000000 (l.drop p) := lval_cut 1000000000 l p (by omega)
  have dW : lval 1000000000 (W.drop p) = W.getD p 0 + 1000000000 * (W.getD (p + 1) 0 + 1000000000 * W.getD (p + 2) 0) := by
    rw [List.drop_eq_getElem_cons (show p < W.length by omega), List.drop_eq_getElem_cons (show p + 1 < W.length by omega), List.drop_eq_getElem_cons (show p + 1 + 1 < W.length by omega), List.drop_of_length_le (by omega)]
    simp [lval, List.getD, show p < W.length by omega, show p + 1 < W.length by omega, show p + 2 < W.length by omega]
  have dY : lval 1000000000 (Y.drop p) = Y.getD p 0 + 1000000000 * Y.getD (p + 1) 0 := by
    rw [List.drop_eq_getElem_cons (show p < Y.length by omega), List.drop_eq_getElem_cons (show p + 1 < Y.length by omega), List.drop_of_length_le (by omega)]
    simp [lval, List.getD, show p < Y.length by omega, show p + 1 < Y.length by omega]
  have cW := cut2 W 3 hW
  have cY := cut2 Y 2 hY
  have tW : lval 1000000000 (W.take p) < 1000000000 ^ p := by
    have := lval_lt (limbs_take hlW p)
    rwa [List.length_take, Nat.min_eq_left (by omega)] at this
  have ha0 : W.getD p 0 < 1000000000 := by
    rw [List.getD_eq_getElem?_getD, List.getElem?_eq_getElem (show p < W.length by omega)]
    exact hlW _ (List.getElem_mem _)
  generalize W.getD p 0 = a0 at *
  generalize W.getD (p + 1) 0 = a1 at *
  generalize W.getD (p + 2) 0 = a2 at *
  generalize Y.getD p 0 = b0 at *
  generalize Y.getD (p + 1) 0 = b1 at *
  have key : q * (b0 + 1000000000 * b1) ≤ a0 + 1000000000 * (a1 + 1000000000 * a2) := by
    apply Decidable.byContradiction
    intro hc
    have h1 : 1000000000 ^ p * (a0 + 1000000000 * (a1 + 1000000000 * a2) + 1) ≤ 1000000000 ^ p * (q * (b0 + 1000000000 * b1)) := Nat.mul_le_mul_left _ (by omega)
    have h2 : 1000000000 ^ p * (q * (b0 + 1000000000 * b1)) ≤ q * lval 1000000000 Y := by
      rw [cY, dY, Nat.mul_left_comm]
      exact Nat.mul_le_mul_left _ (Nat.le_add_left _ _)
    rw [dW] at cW
    rw [Nat.mul_add (1000000000 ^ p) _ 1] at h1
    omega
  have e1 : q * (b0 + 1000000000 * b1) = q * b0 + 1000000000 * (q * b1) := by rw [Nat.mul_add, Nat.mul_left_comm]
  have e2 : q * (b1 * 1000000000 + b0) = q * b0 + 1000000000 * (q * b1) := by rw [← e1]; congr 1; omega
  rw [e2]
  rw [e1] at key
  generalize q * b1 = u at *
  generalize q * b0 = v at *
  exact ⟨by omega, by omega⟩
end Cub
