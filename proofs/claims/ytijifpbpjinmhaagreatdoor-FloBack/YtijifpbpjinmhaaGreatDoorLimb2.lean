/- Plain facts: how decimal digits are cut into limbs of nine. -/
import Derived.Lib.ItoaNum
import Derived.Test.YtijifpbpjinmhaaGreatDoorProg
import Derived.WalkKit
import Derived.WalkSpells
import Derived.WalkLawsBesides
import Derived.Lib.Strings
import Derived.Laws.CopyOwn
import Derived.Lib.SmallJoins
import Derived.OneCell
set_option maxHeartbeats 400000
namespace Cub
/-- The number of decimal digits, the first ahead. -/
def dval (l : List UInt8) : Nat := l.foldl (fun n c => 10 * n + (c.toNat - 48)) 0
theorem dval_nil : dval [] = 0 := rfl
theorem dval_snoc (l : List UInt8) (c : UInt8) : dval (l ++ [c]) = 10 * dval l + (c.toNat - 48) := by
  unfold dval; rw [List.foldl_append]; rfl
theorem foldl_val (l : List UInt8) : ∀ a : Nat, l.foldl (fun n c => 10 * n + (c.toNat - 48)) a = a * 10 ^ l.length + dval l := by
  unfold dval
  induction l with
  | nil => intro a; simp
  | cons c l ih =>
    intro a
    simp only [List.foldl_cons, List.length_cons]
    rw [ih, ih (10 * 0 + (c.toNat - 48)), Nat.pow_succ]
    rw [Nat.add_mul]
    have : 10 * a * 10 ^ l.length = a * (10 ^ l.length * 10) := by
      rw [Nat.mul_comm 10 a, Nat.mul_assoc, Nat.mul_comm 10]
    rw [this]
    simp only [Nat.mul_zero, Nat.zero_add]
    rw [Nat.add_assoc]
theorem dval_append (a b : List UInt8) : dval (a ++ b) = dval a * 10 ^ b.length + dval b := by
  have := foldl_val b (dval a)
  rw [← this]; unfold dval; rw [List.foldl_append]
theorem dval_cons (c : UInt8) (l : List UInt8) : dval (c :: l) = (c.toNat - 48) * 10 ^ l.length + dval l := by
  have := dval_append [c] l
  simpa [dval] using this
/-- Decimal digits alone. -/
def digs (l : List UInt8) : Prop := ∀ c ∈ l, 48 ≤ c.toNat ∧ c.toNat ≤ 57
theorem digs_append {a b : List UInt8} : digs (a ++ b) ↔ digs a ∧ digs b := by
  unfold digs
  constructor
  · intro h; exact ⟨fun c hc => h c (List.mem_append_left _ hc), fun c hc => h c (List.mem_append_right _ hc)⟩
  · rintro ⟨h1, h2⟩ c hc
    rcases List.mem_append.1 hc with h | h
    · exact h1 c h
    · exact h2 c h
theorem dval_lt {l : List UInt8} (h : digs l) : dval l < 10 ^ l.length := by
  induction l with
  | nil => simp [dval]
  | cons c l ih =>
    have hc := h c (by simp)
    have := ih (fun d hd => h d (List.mem_cons_of_mem _ hd))
    rw [dval_cons, List.length_cons, Nat.pow_succ]
    have h2 : (c.toNat - 48) * 10 ^ l.length ≤ 9 * 10 ^ l.length := Nat.mul_le_mul_right _ (by omega)
    omega
/-- A natural number's one text: digits, at least one, no nought ahead of another one. -/
def isNat (l : List UInt8) : Prop := digs l ∧ l ≠ [] ∧ (l.head? = some 48 → l.length = 1)
theorem ofNat_toNat (c : UInt8) : UInt8.ofNat c.toNat = c := by simp
theorem isNat_pos {l : List UInt8} (h : isNat l) (h2 : 2 ≤ l.length) : 10 ^ (l.length - 1) ≤ dval l := by
  obtain ⟨hd, hne, hz⟩ := h
  cases l with
  | nil => simp at h2
  | cons c t =>
    have hc := hd c (by simp)
    have hc2 : c.toNat ≠ 48 := by
      intro e
      have e2 : c = 48 := by rw [← ofNat_toNat c, e]; rfl
      have := hz (by simp [e2])
      simp at this h2
      rw [this] at h2; simp at h2
    rw [dval_cons]
    have : 1 * 10 ^ t.length ≤ (c.toNat - 48) * 10 ^ t.length := Nat.mul_le_mul_right _ (by omega)
    simp at this ⊢
    omega
theorem isNat_init {l : List UInt8} {c : UInt8} (h : isNat (l ++ [c])) (hl : l ≠ []) : isNat l := by
  obtain ⟨hd, hne, hz⟩ := h
  refine ⟨(digs_append.1 hd).1, hl, fun e => ?_⟩
  cases l with
  | nil => exact absurd rfl hl
  | cons a t =>
    have := hz (by simpa using e)
    simp at this
/-- The text of a text's number is the text. -/
theorem dec_dval : ∀ (n : Nat) (l : List UInt8), l.length = n → isNat l → Go.Lib.decDigits (dval l) = l := by
  intro n
  induction n with
  | zero => intro l e h; exact absurd (List.length_eq_zero_iff.1 e) h.2.1
  | succ n ih =>
    intro l e h
    rcases List.eq_nil_or_concat l with h0 | ⟨t, c, rfl⟩
    · exact absurd h0 h.2.1
    · rw [List.concat_eq_append] at e h ⊢
      have hc := (digs_append.1 h.1).2 c (by simp)
      by_cases ht : t = []
      · subst ht
        have e1 : dval ([] ++ [c]) = c.toNat - 48 := by simp [dval]
        rw [e1, Go.Lib.decDigits_one (by omega)]
        have : 48 + (c.toNat - 48) = c.toNat := by omega
        rw [this, ofNat_toNat]; rfl
      · have hi := isNat_init h ht
        have hl : t.length = n := by simpa using e
        have hpos : 1 ≤ dval t := by
          by_cases h2 : 2 ≤ t.length
          · have := isNat_pos hi h2
            have hp : 1 ≤ 10 ^ (t.length - 1) := Nat.one_le_pow _ _ (by decide)
            omega
          · have h1 : t.length = 1 := by
              cases t with
              | nil => exact absurd rfl ht
              | cons a t => simp at h2 ⊢; omega
            -- one digit, not a nought
            cases t with
            | nil => exact absurd rfl ht
            | cons a t =>
              have : t = [] := by simpa using h1
              subst this
              have ha := (digs_append.1 h.1).1 a (by simp)
              have hne : a.toNat ≠ 48 := by
                intro ea
                have ea2 : a = 48 := by rw [← ofNat_toNat a, ea]; rfl
                have := h.2.2 (by simp [ea2])
                simp at this
              simp [dval]; omega
        rw [dval_snoc, Go.Lib.decDigits, dif_neg (by omega)]
        have d1 : (10 * dval t + (c.toNat - 48)) / 10 = dval t := by omega
        have d2 : (10 * dval t + (c.toNat - 48)) % 10 = c.toNat - 48 := by omega
        rw [d1, d2, ih t hl hi]
        have : 48 + (c.toNat - 48) = c.toNat := by omega
        rw [this, ofNat_toNat]
theorem toNat_dig (k : Nat) (h : k < 10) : (UInt8.ofNat (48 + k)).toNat = 48 + k := by
  rw [UInt8.toNat_ofNat']; omega
/-- The text of a number is a natural number's, and its number is that one. -/
theorem dval_dec (n : Nat) : dval (Go.Lib.decDigits n) = n := by
  induction n using Nat.strongRecOn with
  | _ n ih =>
    by_cases h : n < 10
    · rw [Go.Lib.decDigits_one h, show [UInt8.ofNat (48 + n)] = [] ++ [UInt8.ofNat (48 + n)] from rfl, dval_snoc, toNat_dig n h, dval_nil]; omega
    · rw [Go.Lib.decDigits, dif_neg h, dval_snoc, ih (n / 10) (by omega), toNat_dig _ (by omega)]; omega
theorem dec_ne_nil (n : Nat) : Go.Lib.decDigits n ≠ [] := by
  rw [Go.Lib.decDigits]; split <;> simp
theorem dec_digs (n : Nat) : digs (Go.Lib.decDigits n) := by
  induction n using Nat.strongRecOn with
  | _ n ih =>
    by_cases h : n < 10
    · rw [Go.Lib.decDigits_one h]; intro c hc; rw [List.mem_singleton] at hc; subst hc; rw [toNat_dig n h]; omega
    · rw [Go.Lib.decDigits, dif_neg h, digs_append]
      refine ⟨ih _ (by omega), ?_⟩
      intro c hc; rw [List.mem_singleton] at hc; subst hc; rw [toNat_dig _ (by omega)]; omega
theorem dec_head (n : Nat) : (Go.Lib.decDigits n).head? = some 48 → n = 0 := by
  induction n using Nat.strongRecOn with
  | _ n ih =>
    by_cases h : n < 10
    · rw [Go.Lib.decDigits_one h]; intro e
      rw [List.head?_cons, Option.some.injEq] at e
      have := congrArg UInt8.toNat e
      rw [toNat_dig n h] at this
      have e48 : (48 : UInt8).toNat = 48 := by decide
      omega
    · rw [Go.Lib.decDigits, dif_neg h]
      intro e
      have h2 : (Go.Lib.decDigits (n / 10)).head? = some 48 := by
        cases hd : Go.Lib.decDigits (n / 10) with
        | nil => exact absurd hd (dec_ne_nil _)
        | cons a t => rw [hd] at e; simpa using e
      have := ih (n / 10) (by omega) h2
      omega
theorem isNat_dec (n : Nat) : isNat (Go.Lib.decDigits n) := by
  refine ⟨dec_digs n, dec_ne_nil n, fun e => ?_⟩
  have := dec_head n e
  subst this; decide +kernel
theorem dec_len_lt (n k : Nat) (hk : 1 ≤ k) : (Go.Lib.decDigits n).length ≤ k ↔ n < 10 ^ k := by
  rw [Go.Lib.decDigits_length]
  constructor
  · intro h
    have h1 := Go.Lib.lt_pow_nDigits n
    exact Nat.lt_of_lt_of_le h1 (Nat.pow_le_pow_right (by decide) h)
  · intro h
    have hn := isNat_dec n
    by_cases h2 : 2 ≤ (Go.Lib.decDigits n).length
    · have := isNat_pos hn h2
      rw [dval_dec] at this
      have h3 := Nat.lt_of_le_of_lt this h
      have h4 := (Nat.pow_lt_pow_iff_right (by decide : 1 < 10)).1 h3
      rw [Go.Lib.decDigits_length] at h4; omega
    · rw [Go.Lib.decDigits_length] at h2; omega
/-- The same as tests. -/
def digB (c : UInt8) : Bool := decide (48 ≤ c.toNat ∧ c.toNat ≤ 57)
def natB (l : List UInt8) : Bool := l.all digB && (!l.isEmpty && (l.head? != some 48 || l.length == 1))
def rightB (l : List UInt8) : Bool := natB l && decide (l.length ≤ 600)
theorem all_digB (l : List UInt8) : l.all digB = true ↔ digs l := by
  simp [digB, digs]
theorem natB_iff (l : List UInt8) : natB l = true ↔ isNat l := by
  unfold natB isNat
  rw [Bool.and_eq_true, all_digB]
  refine and_congr_right fun _ => ?_
  cases l with
  | nil => simp
  | cons c t => simp; exact Decidable.imp_iff_not_or.symm
theorem rightB_iff (l : List UInt8) : rightB l = true ↔ isNat l ∧ l.length ≤ 600 := by
  unfold rightB; rw [Bool.and_eq_true, natB_iff]; simp
theorem rightB_empty (l : List UInt8) (h : l.length = 0) : rightB l = false := by
  rw [List.length_eq_zero_iff] at h; subst h; rfl
theorem rightB_long (l : List UInt8) (h : 600 < l.length) : rightB l = false := by
  unfold rightB; simp; intro _; omega
theorem natB_zero (l : List UInt8) (h : l.head? = some 48) (h2 : 1 < l.length) : natB l = false := by
  cases hb : natB l with
  | false => rfl
  | true => have := ((natB_iff l).1 hb).2.2 h; omega
theorem rightB_zero (l : List UInt8) (h : l.head? = some 48) (h2 : 1 < l.length) : rightB l = false := by
  unfold rightB; rw [natB_zero l h h2]; rfl
theorem natB_bad (l : List UInt8) (k : Nat) (hk : k < l.length) (h : ¬ (48 ≤ l[k].toNat ∧ l[k].toNat ≤ 57)) : natB l = false := by
  cases hb : natB l with
  | false => rfl
  | true => exact absurd (((natB_iff l).1 hb).1 l[k] (List.getElem_mem hk)) h
theorem rightB_bad (l : List UInt8) (k : Nat) (hk : k < l.length) (h : ¬ (48 ≤ l[k].toNat ∧ l[k].toNat ≤ 57)) : rightB l = false := by
  unfold rightB; rw [natB_bad l k hk h]; rfl
theorem natB_good (l : List UInt8) (h0 : 0 < l.length) (h1 : l.head? = some 48 → l.length = 1) (h : ∀ j (hj : j < l.length), 48 ≤ l[j].toNat ∧ l[j].toNat ≤ 57) : natB l = true := by
  rw [natB_iff]
  refine ⟨fun c hc => ?_, fun e => (by rw [e] at h0; simp at h0), h1⟩
  obtain ⟨j, hj, rfl⟩ := List.getElem_of_mem hc
  exact h j hj
theorem rightB_good (l : List UInt8) (h0 : 0 < l.length) (h6 : l.length ≤ 600) (h1 : l.head? = some 48 → l.length = 1) (h : ∀ j (hj : j < l.length), 48 ≤ l[j].toNat ∧ l[j].toNat ≤ 57) : rightB l = true := by
  unfold rightB; rw [natB_good l h0 h1 h]; simpa using h6
end Cub
namespace Go.Proofs.YtijifpbpjinmhaaGreatDoor
open Go.RowKit
theorem hide {p : Prop} (h : p) : Hid p := h
theorem unhide {p : Prop} (h : Hid p) : p := h
theorem list_len (s : ByteArray) : s.data.toList.length = s.size := Array.length_toList
theorem list_get (s : ByteArray) (k : Nat) (hk : k < s.size) : s.data.toList[k]'(by rw [list_len]; exact hk) = s[k] := rfl
theorem list_head (s : ByteArray) (h : 0 < s.size) : s.data.toList.head? = some s[0] := by
  rw [List.head?_eq_getElem?, List.getElem?_eq_getElem (by rw [list_len]; exact h)]; rfl
theorem byte_48 (c : UInt8) : ((c.toNat : Int) = 48) ↔ c = 48 := by
  constructor
  · intro h
    have : c.toNat = 48 := by omega
    rw [← Cub.ofNat_toNat c, this]; rfl
  · intro h; subst h; rfl
theorem right_any (s : ByteArray) (w : World) (hs : s.size ≤ maxLen) :
    Calls Tryz.prog 88 #[.string s] w fun e w' => e = .returned (.bool (Cub.rightB s.data.toList)) ∧ w' = w := by
  unfold maxLen at hs
  by_cases h0 : s.size = 0
  · have hf := Cub.rightB_empty s.data.toList (by rw [list_len]; exact h0)
    rw [hf]
    have hz : ((s.size : Int) == 0) = true := by rw [h0]; rfl
    clear hf h0
    go_enter Tryz.func88, Tryz.ntmps88
    go_wp2
    go_ret
    exact ⟨rfl, rfl⟩
  · have hz : ((s.size : Int) == 0) = false := by rw [beq_eq_false_iff_ne]; omega
    by_cases h6 : 600 < s.size
    · have hf := Cub.rightB_long s.data.toList (by rw [list_len]; exact h6)
      rw [hf]
      clear hf
      go_enter Tryz.func88, Tryz.ntmps88
      go_wp2
      go_ret
      exact ⟨rfl, rfl⟩
    · have hp : 0 < s.size := by omega
      by_cases hc : s[0] = 48 ∧ 1 < s.size
      · have hf := Cub.rightB_zero s.data.toList (by rw [list_head s hp, hc.1]) (by rw [list_len]; exact hc.2)
        rw [hf]
        have h48 : ((s[0].toNat : Int) == 48) = true := by rw [beq_iff_eq]; exact (byte_48 _).2 hc.1
        have h1 := hc.2
        clear hf hc h0
        go_enter Tryz.func88, Tryz.ntmps88
        go_wp2
        go_ret
        exact ⟨rfl, rfl⟩
      · have hh : s.data.toList.head? = some 48 → s.data.toList.length = 1 := by
          intro e
          rw [list_head s hp, Option.some.injEq] at e
          rw [list_len]
          by_cases h1 : 1 < s.size
          · exact absurd ⟨e, h1⟩ hc
          · omega
        have HH := hide hh
        have h6' : s.size ≤ 600 := by omega
        have hpk : (((s[0].toNat : Int) == 48) = true ∧ ¬ 1 < s.size) ∨ ((s[0].toNat : Int) == 48) = false := by
          by_cases e : s[0] = 48
          · exact Or.inl ⟨by rw [beq_iff_eq]; exact (byte_48 _).2 e, fun h => hc ⟨e, h⟩⟩
          · exact Or.inr (by rw [beq_eq_false_iff_ne]; exact fun h => e ((byte_48 _).1 h))
        clear hh h0 hc h6
        rcases hpk with ⟨h48, h1⟩ | h48
        all_goals
          go_enter Tryz.func88, Tryz.ntmps88
          go_wp2
          go_loop [24] (fun i => ∃ k : Nat, k ≤ s.size ∧ i = .int .i64 k ∧ ∀ j (hj : j < s.size), j < k → Hid (48 ≤ s[j].toNat ∧ s[j].toNat ≤ 57)) (fun i => s.size - (intOf i).toNat)
          case atStart => exact ⟨0, Nat.zero_le _, rfl, fun j _ h => absurd h (Nat.not_lt_zero _)⟩
          case round =>
            obtain ⟨k, hk, rfl, hall⟩ := hrel
            have HA := hide hall
            clear hall
            by_cases hlt : k < s.size
            · by_cases hd : 48 ≤ s[k].toNat ∧ s[k].toNat ≤ 57
              · obtain ⟨d1, d2⟩ := hd
                go_wp2
                go_round
                case rel => exact ⟨k + 1, by omega, by go_num, fun j hj h => (by
                  by_cases e : j < k
                  · exact unhide HA j hj e
                  · have : j = k := by omega
                    subst this; exact ⟨d1, d2⟩)⟩
                case measure => simp [intOf]; omega
              · have hf := Cub.rightB_bad s.data.toList k (by rw [list_len]; exact hlt) hd
                have HF := hide hf
                clear hf
                by_cases d1 : 48 ≤ s[k].toNat
                · have d2 : 57 < s[k].toNat := by omega
                  clear hd
                  go_wp2
                  go_ret
                  exact ⟨by rw [unhide HF]; rfl, rfl⟩
                · clear hd
                  go_wp2
                  go_ret
                  exact ⟨by rw [unhide HF]; rfl, rfl⟩
            · have e : k = s.size := by omega
              have hf := Cub.rightB_good s.data.toList (by rw [list_len]; omega) (by rw [list_len]; omega) (unhide HH) (fun j hj => (unhide HA j (by rw [list_len] at hj; exact hj) (by rw [list_len] at hj; omega)).out)
              have HF := hide hf
              clear hf e
              go_wp2
              go_ret
              exact ⟨by rw [unhide HF]; rfl, rfl⟩
theorem empty_of (s : ByteArray) (h : s.size = 0) : s.toList.isEmpty = true := by
  rw [Lib.toList_data]; have : s.data.toList = [] := List.length_eq_zero_iff.1 (by rw [list_len]; exact h)
  rw [this]; rfl
theorem not_empty_of (s : ByteArray) (h : 0 < s.size) : s.toList.isEmpty = false := by
  rw [Lib.toList_data]
  cases e : s.data.toList with
  | nil => have := list_len s; rw [e] at this; simp at this; omega
  | cons a t => rfl
end Go.Proofs.YtijifpbpjinmhaaGreatDoor
namespace Cub
/-- The number of limbs, the least ahead. -/
def lval (B : Nat) : List Nat → Nat
  | [] => 0
  | x :: l => x + B * lval B l
def limbs (B : Nat) (l : List Nat) : Prop := ∀ x ∈ l, x < B
theorem lval_append (B : Nat) (a b : List Nat) : lval B (a ++ b) = lval B a + B ^ a.length * lval B b := by
  induction a with
  | nil => simp [lval]
  | cons x a ih =>
    simp only [List.cons_append, lval, ih, List.length_cons, Nat.pow_succ]
    rw [Nat.mul_add, ← Nat.mul_assoc, Nat.mul_comm B (B ^ a.length)]; omega
theorem lval_snoc (B : Nat) (a : List Nat) (x : Nat) : lval B (a ++ [x]) = lval B a + B ^ a.length * x := by
  rw [lval_append]; simp [lval]
theorem limbs_append {B : Nat} {a b : List Nat} : limbs B (a ++ b) ↔ limbs B a ∧ limbs B b := by
  unfold limbs
  constructor
  · intro h; exact ⟨fun c hc => h c (List.mem_append_left _ hc), fun c hc => h c (List.mem_append_right _ hc)⟩
  · rintro ⟨h1, h2⟩ c hc
    rcases List.mem_append.1 hc with h | h
    · exact h1 c h
    · exact h2 c h
theorem lval_lt {B : Nat} {l : List Nat} (h : limbs B l) : lval B l < B ^ l.length := by
  induction l with
  | nil => simp [lval]
  | cons x l ih =>
    have hx := h x (by simp)
    have := ih (fun d hd => h d (List.mem_cons_of_mem _ hd))
    simp only [lval, List.length_cons, Nat.pow_succ]
    have h2 : B * (lval B l + 1) ≤ B * B ^ l.length := Nat.mul_le_mul_left _ this
    rw [Nat.mul_add] at h2
    rw [Nat.mul_comm (B ^ l.length)]; omega
/-- In its one form: limbs below the base, the last one not 0. -/
def normal (B : Nat) (l : List Nat) : Prop := limbs B l ∧ l.getLast? ≠ some 0
theorem normal_nil (B : Nat) : normal B [] := ⟨fun _ h => (by cases h), by simp⟩
theorem normal_ge {B : Nat} {l : List Nat} (h : normal B l) (hne : l ≠ []) : B ^ (l.length - 1) ≤ lval B l := by
  rcases List.eq_nil_or_concat l with h0 | ⟨t, c, rfl⟩
  · exact absurd h0 hne
  · rw [List.concat_eq_append] at *
    have hc : c ≠ 0 := by intro e; apply h.2; simp [e]
    rw [lval_snoc]
    have : B ^ t.length * 1 ≤ B ^ t.length * c := Nat.mul_le_mul_left _ (by omega)
    simp; omega
theorem normal_zero {B : Nat} {l : List Nat} (h : normal B l) (hB : 0 < B) : lval B l = 0 ↔ l = [] := by
  constructor
  · intro e
    by_cases hne : l = []
    · exact hne
    · have := normal_ge h hne
      have hp : 0 < B ^ (l.length - 1) := Nat.pow_pos hB
      omega
  · intro e; subst e; rfl
/-- Noughts at the top left out. -/
def trimN (l : List Nat) : List Nat := (l.reverse.dropWhile (· == 0)).reverse
theorem trimN_snoc_zero (l : List Nat) : trimN (l ++ [0]) = trimN l := by unfold trimN; simp
theorem trimN_snoc (l : List Nat) (x : Nat) (h : x ≠ 0) : trimN (l ++ [x]) = l ++ [x] := by
  unfold trimN; simp [h]
theorem lval_trim (B : Nat) : ∀ (n : Nat) (l : List Nat), l.length = n → lval B (trimN l) = lval B l ∧ (limbs B l → normal B (trimN l)) ∧ ∃ k, l = trimN l ++ List.replicate k 0 := by
  intro n
  induction n with
  | zero => intro l e; have := List.length_eq_zero_iff.1 e; subst this; exact ⟨rfl, fun _ => normal_nil B, 0, rfl⟩
  | succ n ih =>
    intro l e
    rcases List.eq_nil_or_concat l with h0 | ⟨t, c, rfl⟩
    · subst h0; simp at e
    · rw [List.concat_eq_append] at *
      by_cases hc : c = 0
      · subst hc
        rw [trimN_snoc_zero]
        obtain ⟨h1, h2, k, h3⟩ := ih t (by simpa using e)
        refine ⟨by rw [h1, lval_snoc]; simp, fun h => h2 (limbs_append.1 h).1, k + 1, ?_⟩
        rw [List.replicate_succ', ← List.append_assoc, ← h3]
      · rw [trimN_snoc t c hc]
        exact ⟨rfl, fun h => ⟨h, by simpa using hc⟩, 0, by simp⟩
end Cub
namespace Go.Proofs.YtijifpbpjinmhaaGreatDoor
open Go.RowKit
/-- Limbs as cells. -/
def u64s (l : List Nat) : List Value := l.map fun x : Nat => Value.int .u64 (x : Int)
theorem u64s_length (l : List Nat) : (u64s l).length = l.length := by simp [u64s]
theorem u64s_get (l : List Nat) (i : Nat) (h : i < l.length) : (u64s l)[i]? = some (.int .u64 (l[i] : Int)) := by simp [u64s, h]
/-- A slice value holds a list of limbs. -/
def Row (w : World) (v : Value) (l : List Nat) : Prop :=
  ∃ a cap, v = .slice a l.length cap ∧ l.length ≤ cap ∧ cap ≤ maxLen ∧ (l ≠ [] → ∃ b o, a = some ⟨b, o, none⟩ ∧ b < w.heap.size ∧ ∀ i (h : i < l.length), w.cell? ⟨b, o + i, none⟩ = some (.int .u64 (l[i] : Int)))
theorem Row.later {w w' : World} {v : Value} {l : List Nat} (h : Row w v l) (hb : Below w.heap.size w w') : Row w' v l := by
  obtain ⟨a, cap, rfl, hc, hm, hr⟩ := h
  refine ⟨a, cap, rfl, hc, hm, fun hne => ?_⟩
  obtain ⟨b, o, rfl, hlt, hcell⟩ := hr hne
  have := hb.size
  exact ⟨b, o, rfl, by omega, fun i hi => (hb.cell (p := ⟨b, o + i, none⟩) hlt).trans (hcell i hi)⟩
theorem Row.nil (w : World) : Row w (.slice none 0 0) [] := ⟨none, 0, rfl, Nat.le_refl _, Nat.zero_le _, fun h => absurd rfl h⟩
/-- The first ones of a row. -/
theorem Row.take {w : World} {a : Option Addr} {n cap : Nat} {l : List Nat} (h : Row w (.slice a n cap) l) (k : Nat) (hk : k ≤ n) : Row w (.slice a k cap) (l.take k) := by
  obtain ⟨a', cap', e, hc, hm, hr⟩ := h
  simp only [Value.slice.injEq] at e
  obtain ⟨rfl, rfl, rfl⟩ := e
  have hl : (l.take k).length = k := by rw [List.length_take]; omega
  refine ⟨a, cap, by rw [hl], by omega, hm, fun hne => ?_⟩
  obtain ⟨b, o, rfl, hlt, hcell⟩ := hr (fun e => hne (by rw [e]; simp))
  refine ⟨b, o, rfl, hlt, fun i hi => ?_⟩
  rw [List.getElem_take]
  exact hcell i (by omega)
/-- What the call owns is a row. -/
theorem Row.of_own {w : World} {base : Nat} {v : Value} {n : Nat} {l : List Nat} (h : w.ownsRow base 41 1 v n (u64s l)) : Row w v l := by
  have hn : l.length = n := by have := h.1; rw [u64s_length] at this; omega
  rcases Joins.ownsRow_forms h with ⟨rfl, h0⟩ | ⟨g, cap, rfl⟩
  · have : l = [] := List.length_eq_zero_iff.1 (by omega)
    subst this; exact Row.nil w
  · obtain ⟨hx, h2⟩ := id h
    rcases h2 with ⟨e, _⟩ | ⟨g', cap', cur, e, hb, hg, hcap, hmax, hsz, htk⟩
    · cases e
    · simp only [Value.slice.injEq, Option.some.injEq, Addr.mk.injEq] at e
      obtain ⟨⟨rfl, _⟩, _, rfl⟩ := e
      refine ⟨some ⟨g, 0, none⟩, cap, by rw [hn], by omega, hmax, fun _ => ⟨g, 0, rfl, (Array.getElem?_eq_some_iff.1 hg).1, fun i hi => ?_⟩⟩
      have := h.cellAt i (by omega)
      rw [u64s_get l i hi] at this
      simpa using this
/-- A Big holds a number. -/
def IsBig (w : World) (v : Value) (n : Nat) : Prop := ∃ s l, v = .agg #[s] ∧ Row w s l ∧ Cub.normal 1000000000 l ∧ Cub.lval 1000000000 l = n
theorem IsBig.later {w w' : World} {v : Value} {n : Nat} (h : IsBig w v n) (hb : Below w.heap.size w w') : IsBig w' v n := by
  obtain ⟨s, l, rfl, hr, hn, hv⟩ := h
  exact ⟨s, l, rfl, hr.later hb, hn, hv⟩
/-- Block g holds just these limbs. -/
def Own (w : World) (g : Nat) (l : List Nat) : Prop := w.heap[g]? = some (.cells (u64s l).toArray 41 (0, 0))
theorem Own.of_row {w : World} {base g n : Nat} {l : List Nat} (h : w.ownsRow base 41 1 (.slice (some ⟨g, 0, none⟩) n n) n (u64s l)) : Own w g l := by
  obtain ⟨hx, h2⟩ := h
  rcases h2 with ⟨e, _⟩ | ⟨g', cap', cur, e, hb, hg, hcap, hmax, hsz, htk⟩
  · cases e
  · simp only [Value.slice.injEq, Option.some.injEq, Addr.mk.injEq] at e
    obtain ⟨⟨rfl, _⟩, _, rfl⟩ := e
    have e2 : cur.toList = u64s l := by rw [← htk, List.take_of_length_le (by simp [hsz])]
    unfold Own
    rw [hg, ← e2]
theorem Own.lt {w : World} {g : Nat} {l : List Nat} (h : Own w g l) : g < w.heap.size := (Array.getElem?_eq_some_iff.1 h).1
theorem Own.cell {w : World} {g : Nat} {l : List Nat} (h : Own w g l) (i : Nat) (hi : i < l.length) : w.cell? ⟨g, i, none⟩ = some (.int .u64 (l[i] : Int)) := by
  unfold Own at h
  simp [World.cell?, h, u64s, hi]
theorem Own.frozen {w : World} {g : Nat} {l : List Nat} (h : Own w g l) (i : Nat) : w.frozen? ⟨g, i, none⟩ = false := by
  unfold Own at h
  simp [World.frozen?, h]
theorem Own.set {w : World} {g : Nat} {l : List Nat} (h : Own w g l) (i : Nat) (x : Nat) : Own (w.setCell ⟨g, i, none⟩ (.int .u64 (x : Int))) g (l.set i x) := by
  unfold Own at h ⊢
  simp only [World.setCell, Array.getElem?_modify, h, Option.map_some]
  simp [u64s, List.map_set]
theorem Own.later {w w' : World} {g B : Nat} {l : List Nat} (h : Own w g l) (hb : Below B w w') (hg : g < B) : Own w' g l := (hb.block g hg).trans h
theorem Own.row {w : World} {g : Nat} {l : List Nat} (h : Own w g l) (n cap : Nat) (hn : n = l.length) (hc : n ≤ cap) (hm : cap ≤ maxLen) : Row w (.slice (some ⟨g, 0, none⟩) n cap) l := by
  subst hn
  exact ⟨some ⟨g, 0, none⟩, cap, rfl, hc, hm, fun _ => ⟨g, 0, rfl, h.lt, fun i hi => by rw [Nat.zero_add]; exact h.cell i hi⟩⟩
theorem u64s_made (n : Nat) : (madeCells (Value.int .u64 0).cells (n * 1)).toList = u64s (List.replicate n 0) := by
  rw [show (Value.int .u64 0).cells = #[Value.int .u64 0] from rfl, toList_madeCells_one]
  simp [u64s]
/-- A result's box, later. -/
theorem box_later {w w' : World} {g : Nat} {x : Value} (hb : Below w.heap.size w w') (hg : g < w.heap.size) (hc : w.cell? ⟨g, 0, none⟩ = some x) (hf : w.frozen? ⟨g, 0, none⟩ = false) :
    w'.cell? ⟨g, 0, none⟩ = some x ∧ w'.frozen? ⟨g, 0, none⟩ = false :=
  ⟨(hb.cell (p := ⟨g, 0, none⟩) hg).trans hc, (hb.frozen (p := ⟨g, 0, none⟩) hg).trans hf⟩
theorem Row.form {w : World} {v : Value} {l : List Nat} (h : Row w v l) : ∃ a cap, v = .slice a l.length cap ∧ l.length ≤ cap ∧ cap ≤ 9223372036854775807 := by
  obtain ⟨a, cap, rfl, hc, hm, _⟩ := h
  exact ⟨a, cap, rfl, hc, hm⟩
/-- A store into a cell that holds no limb leaves every row. -/
theorem Row.box {w : World} {v : Value} {l : List Nat} (h : Row w v l) {p : Addr} {x : Value} (u : Value) (hp : w.cell? p = some x) (hx : ∀ k n, x ≠ .int k n) : Row (w.setCell p u) v l := by
  obtain ⟨a, cap, rfl, hc, hm, hr⟩ := h
  refine ⟨a, cap, rfl, hc, hm, fun h0 => ?_⟩
  obtain ⟨b, o, rfl, hlt, hcell⟩ := hr h0
  refine ⟨b, o, rfl, by simpa [World.setCell] using hlt, fun i hi => ?_⟩
  rw [World.cell?_setCell_other _ _ _ _ (by
    intro e
    have h1 := hcell i hi
    rw [← e, hp, Option.some.injEq] at h1
    exact hx _ _ h1)]
  exact hcell i hi
theorem IsBig.box {w : World} {v : Value} {n : Nat} (h : IsBig w v n) {p : Addr} {x : Value} (u : Value) (hp : w.cell? p = some x) (hx : ∀ k n, x ≠ .int k n) : IsBig (w.setCell p u) v n := by
  obtain ⟨s, l, rfl, hr, hn, hv⟩ := h
  exact ⟨s, l, rfl, hr.box u hp hx, hn, hv⟩
theorem IsBig.shape {w : World} {v : Value} {n : Nat} (h : IsBig w v n) : ∃ a len cap, v = .agg #[.slice a len cap] := by
  obtain ⟨s, l, rfl, hr, hn, hv⟩ := h
  obtain ⟨a, cap, rfl, _⟩ := hr
  exact ⟨a, _, cap, rfl⟩
theorem no_int (a : Option Addr) (n c : Nat) : ∀ k m, Value.slice a n c ≠ .int k m := fun _ _ h => by cases h
theorem IsBig.zero (w : World) : IsBig w (.agg #[.slice none 0 0]) 0 := ⟨_, [], rfl, Row.nil w, Cub.normal_nil _, rfl⟩
/-- nat.trim: noughts at the top are left out. -/
theorem trim_any (v : Value) (l : List Nat) (w : World) (h : Row w v l) :
    Calls Tryz.prog 78 #[v] w fun e w' => ∃ v', e = .returned (.agg #[v']) ∧ Row w' v' (Cub.trimN l) ∧ Below w.heap.size w w' := by
  have H := hide h
  obtain ⟨a, cap, rfl, hc, hm, hr⟩ := h
  have HR := hide hr
  clear hr
  unfold maxLen at hm
  go_enter Tryz.func78, Tryz.ntmps78
  go_wp2
  go_loop [3] (fun n => ∃ k : Nat, k ≤ l.length ∧ n = .int .i64 k ∧ Hid (Cub.trimN (l.take k) = Cub.trimN l)) (fun n => (intOf n).toNat)
  case atStart => exact ⟨l.length, Nat.le_refl _, rfl, by rw [List.take_length]; exact rfl⟩
  case round =>
    obtain ⟨k, hk, rfl, ht⟩ := hrel
    by_cases hk0 : k = 0
    · subst hk0
      have e : Cub.trimN l = l.take 0 := by rw [← unhide ht]; rfl
      have E := hide e
      clear e ht
      go_wp2
      refine bodyPost_ret (v := .agg #[.slice a 0 cap]) (by simp [results, Tryz.results78, go_sem]) rfl ⟨_, rfl, ?_, ?_⟩
      · rw [unhide E]
        exact ((unhide H).take 0 (Nat.zero_le _)).later (by exact (Below.refl _ _).alloc (Nat.le_refl _) _)
      · exact (Below.refl _ _).alloc (Nat.le_refl _) _
    · have hlt : k - 1 < l.length := by omega
      obtain ⟨b, o, rfl, hbw, hcell⟩ := unhide HR (fun e => by rw [e] at hlt; simp at hlt)
      have hx := hcell (k - 1) hlt
      obtain ⟨j, rfl⟩ : ∃ j, k = j + 1 := ⟨k - 1, by omega⟩
      simp only [Nat.add_sub_cancel] at hx hlt
      have HT := ht
      clear ht
      by_cases hz : l[j] = 0
      · rw [hz] at hx
        have e : Cub.trimN (l.take j) = Cub.trimN l := by
          rw [← unhide HT, List.take_succ_eq_append_getElem hlt, hz, Cub.trimN_snoc_zero]
        have E := hide e
        clear hcell e hz
        go_wp2
        go_round
        case rel => exact ⟨j, by omega, by go_num, E⟩
        case measure => simp [intOf]
      · have e : Cub.trimN l = l.take (j + 1) := by
          rw [← unhide HT, List.take_succ_eq_append_getElem hlt, Cub.trimN_snoc _ _ hz]
        have E := hide e
        have hz' : ((l[j] : Int) == 0) = false := by rw [beq_eq_false_iff_ne]; omega
        clear hcell e hz
        go_wp2
        refine bodyPost_ret (v := .agg #[.slice (some ⟨b, o, none⟩) (j + 1) cap]) (by simp [results, Tryz.results78, go_sem]) rfl ⟨_, rfl, ?_, ?_⟩
        · rw [unhide E]
          exact ((unhide H).take (j + 1) hk).later (by exact (Below.refl _ _).alloc (Nat.le_refl _) _)
        · exact (Below.refl _ _).alloc (Nat.le_refl _) _
end Go.Proofs.YtijifpbpjinmhaaGreatDoor
namespace Cub
theorem pow9 (m : Nat) : 10 ^ (9 * m) = 1000000000 ^ m := by rw [Nat.pow_mul]
/-- One limb more: the digits from f on are those of the limb, then those from e on. -/
theorem dval_cut (l : List UInt8) (m e f : Nat) (he : e + 9 * m = l.length) (hf : f ≤ e) :
    dval (l.drop f) = dval (l.drop e) + 1000000000 ^ m * dval ((l.drop f).take (e - f)) := by
  have h1 : l.drop f = (l.drop f).take (e - f) ++ l.drop e := by
    have := List.take_append_drop (e - f) (l.drop f)
    rw [List.drop_drop] at this
    rw [show f + (e - f) = e by omega] at this
    exact this.symm
  rw [← pow9]
  have hl : (l.drop e).length = 9 * m := by rw [List.length_drop]; omega
  rw [h1, dval_append, hl, ← h1, Nat.mul_comm, Nat.add_comm]
theorem digs_sub {l : List UInt8} (h : digs l) (f k : Nat) : digs ((l.drop f).take k) := fun c hc => h c (List.mem_of_mem_drop (List.mem_of_mem_take hc))
theorem seg_lt {l : List UInt8} (h : digs l) (f k : Nat) (hk : k ≤ 9) : dval ((l.drop f).take k) < 1000000000 := by
  have h1 := dval_lt (digs_sub h f k)
  have h2 : ((l.drop f).take k).length ≤ 9 := by rw [List.length_take]; omega
  have h3 : 10 ^ ((l.drop f).take k).length ≤ 10 ^ 9 := Nat.pow_le_pow_right (by decide) h2
  omega
theorem seg_lt' {l : List UInt8} (h : digs l) (f k : Nat) (hk : k ≤ 8) : dval ((l.drop f).take k) < 100000000 := by
  have h1 := dval_lt (digs_sub h f k)
  have h2 : ((l.drop f).take k).length ≤ 8 := by rw [List.length_take]; omega
  have h3 : 10 ^ ((l.drop f).take k).length ≤ 10 ^ 8 := Nat.pow_le_pow_right (by decide) h2
  omega
theorem seg_succ (l : List UInt8) (f i : Nat) (hf : f ≤ i) (hi : i < l.length) :
    dval ((l.drop f).take (i + 1 - f)) = dval ((l.drop f).take (i - f)) * 10 + (l[i].toNat - 48) := by
  rw [show i + 1 - f = (i - f) + 1 by omega, List.take_succ_eq_append_getElem (by rw [List.length_drop]; omega), dval_snoc]
  have : (l.drop f)[i - f]'(by rw [List.length_drop]; omega) = l[i] := by
    rw [List.getElem_drop]; congr 1; omega
  rw [this, Nat.mul_comm]
/-- The outer step. -/
theorem cut_step (l : List UInt8) (L : List Nat) (e f : Nat) (he : e + 9 * L.length = l.length) (hf : f = e - 9) (hd : digs l) (hL : limbs 1000000000 L)
    (hv : lval 1000000000 L = dval (l.drop e)) :
    limbs 1000000000 (L ++ [dval ((l.drop f).take (e - f))]) ∧ lval 1000000000 (L ++ [dval ((l.drop f).take (e - f))]) = dval (l.drop f) := by
  refine ⟨limbs_append.2 ⟨hL, fun x hx => ?_⟩, ?_⟩
  · rw [List.mem_singleton] at hx; subst hx; exact seg_lt hd f _ (by omega)
  · rw [lval_snoc, hv, dval_cut l L.length e f he (by omega)]
end Cub
