/- Plain facts: the order of texts is that of their numbers; what parsing gives. -/
import Derived.Test.YthcihkgellginaaDoorPlain
import Derived.Lib.ParseIntB
import GoSem.Op.String
namespace Cub

def cmpN (m n : Nat) : Int := if m < n then -1 else if n < m then 1 else 0

theorem toNat_lt_iff (a b : UInt8) : a < b ↔ a.toNat < b.toNat := UInt8.lt_iff_toNat_lt

theorem bytesLess_dval : ∀ (a b : List UInt8), digs a → digs b → a.length = b.length → Go.Op.bytesLess a b = decide (dval a < dval b) := by
  intro a
  induction a with
  | nil => intro b _ _ h; have : b = [] := List.length_eq_zero_iff.1 h.symm
           subst this; rfl
  | cons x a ih =>
    intro b ha hb hl
    cases b with
    | nil => simp at hl
    | cons y b =>
      have hx := ha x (by simp)
      have hy := hb y (by simp)
      have ha' : digs a := fun c hc => ha c (List.mem_cons_of_mem _ hc)
      have hb' : digs b := fun c hc => hb c (List.mem_cons_of_mem _ hc)
      have hl' : a.length = b.length := by simpa using hl
      have e := ih b ha' hb' hl'
      have l1 := dval_lt ha'
      have l2 := dval_lt hb'
      simp only [Go.Op.bytesLess]
      rw [e, dval_cons, dval_cons, ← hl']
      rw [← hl'] at l2
      rw [Bool.eq_iff_iff]
      simp only [Bool.or_eq_true, Bool.and_eq_true, decide_eq_true_eq, beq_iff_eq, toNat_lt_iff]
      constructor
      · rintro (h | ⟨h, h2⟩)
        · have : (x.toNat - 48 + 1) * 10 ^ a.length ≤ (y.toNat - 48) * 10 ^ a.length := Nat.mul_le_mul_right _ (by omega)
          rw [Nat.add_mul] at this; omega
        · subst h; omega
      · intro h
        by_cases hxy : x.toNat < y.toNat
        · exact Or.inl hxy
        · right
          by_cases he : x.toNat = y.toNat
          · refine ⟨?_, ?_⟩
            · rw [← ofNat_toNat x, ← ofNat_toNat y, he]
            · rw [he] at h; omega
          · exfalso
            have : (y.toNat - 48 + 1) * 10 ^ a.length ≤ (x.toNat - 48) * 10 ^ a.length := Nat.mul_le_mul_right _ (by omega)
            rw [Nat.add_mul] at this; omega

theorem dval_inj {a b : List UInt8} (ha : isNat a) (hb : isNat b) (h : dval a = dval b) : a = b := by
  rw [← dec_dval _ a rfl ha, ← dec_dval _ b rfl hb, h]

theorem len_lt_dval {a b : List UInt8} (ha : isNat a) (hb : isNat b) (h : a.length < b.length) : dval a < dval b := by
  have h1 := dval_lt ha.1
  have h2 : 0 < a.length := List.length_pos_iff.2 ha.2.1
  have h3 := isNat_pos hb (by omega)
  have h4 : 10 ^ a.length ≤ 10 ^ (b.length - 1) := Nat.pow_le_pow_right (by decide) (by omega)
  omega

/-- What parsing gives of digits. -/
theorem parseM (l : List UInt8) : ∀ acc, digs l → acc ≤ 18446744073709551615 →
    Go.Lib.parseUintM 18446744073709551615 acc l = if acc * 10 ^ l.length + dval l ≤ 18446744073709551615 then .ok (acc * 10 ^ l.length + dval l) else .range := by
  induction l with
  | nil => intro acc _ h; simp [Go.Lib.parseUintM, dval, h]
  | cons c l ih =>
    intro acc hd ha
    have hc := hd c (by simp)
    have hd' : digs l := fun x hx => hd x (List.mem_cons_of_mem _ hx)
    have hp : 1 ≤ 10 ^ l.length := Nat.one_le_pow _ _ (by decide)
    simp only [Go.Lib.parseUintM]
    rw [if_pos hc, dval_cons, List.length_cons]
    have e : acc * 10 ^ (l.length + 1) + ((c.toNat - 48) * 10 ^ l.length + dval l) = (acc * 10 + (c.toNat - 48)) * 10 ^ l.length + dval l := by
      rw [Nat.pow_succ, Nat.add_mul, Nat.mul_assoc acc 10, Nat.mul_comm 10 (10 ^ l.length)]; omega
    have hge : acc * 10 + (c.toNat - 48) ≤ (acc * 10 + (c.toNat - 48)) * 10 ^ l.length := Nat.le_mul_of_pos_right _ hp
    rw [e]
    by_cases h1 : 1844674407370955162 ≤ acc
    · rw [if_pos h1, if_neg (by omega)]
    · rw [if_neg h1]
      by_cases h2 : 18446744073709551615 < acc * 10 + (c.toNat - 48)
      · rw [if_pos h2, if_neg (by omega)]
      · rw [if_neg h2, ih _ hd' (by omega)]

theorem parse64 (l : List UInt8) (h : isNat l) : Go.Lib.parseUintB 64 l = if dval l ≤ 18446744073709551615 then .ok (dval l) else .range := by
  unfold Go.Lib.parseUintB
  rw [if_neg h.2.1]
  have := parseM l 0 h.1 (by omega)
  simpa using this
end Cub
