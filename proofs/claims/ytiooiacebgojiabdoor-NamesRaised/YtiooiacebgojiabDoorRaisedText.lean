/- The exponent that is read out of a number in raised digits is that number. -/
import Derived.Test.YtiooiacebgojiabDoorRaise
import Derived.Test.YtiooiacebgojiabDoorPower
namespace Go.Proofs.YtiooiacebgojiabDoor
open Go.RowKit

theorem dec_two (x : UInt8) (hx : x.toNat / 64 = 2) (y : List UInt8) : Lib.decodeL (194 :: x :: y) = (128 + x.toNat % 64, 2) := by
  rw [Lib.decodeL_N]
  simp [Lib.decodeN, hx]
theorem dec_three (x : UInt8) (hx : x.toNat / 64 = 2) (y : List UInt8) : Lib.decodeL (226 :: 129 :: x :: y) = (8256 + x.toNat % 64, 3) := by
  rw [Lib.decodeL_N]
  simp [Lib.decodeN, hx]
  omega
theorem dec_m (y : List UInt8) : Lib.decodeL (109 :: y) = (109, 1) := by
  rw [Lib.decodeL_N]
  simp [Lib.decodeN]
/-- A raised digit, whatever stands behind it. -/
theorem dig_dec (c : UInt8) (h : 48 ≤ c.toNat ∧ c.toNat ≤ 57) (y : List UInt8) : ∃ r : Nat, Lib.decodeL (Lib.encodeRune (digR c) ++ y) = (r, (Lib.encodeRune (digR c)).length) ∧ figOf (r : Int) = c.toNat - 48 ∧ r ≠ 8314 ∧ r ≠ 8315 ∧ figLen (r : Int) = (Lib.encodeRune (digR c)).length ∧ 0 < (Lib.encodeRune (digR c)).length := by
  obtain ⟨d, hd, rfl⟩ : ∃ d : Nat, d < 10 ∧ c = UInt8.ofNat (48 + d) := ⟨c.toNat - 48, by omega, by
    rw [show 48 + (c.toNat - 48) = c.toNat by omega]; simp⟩
  clear h
  rcases (by omega : d = 0 ∨ d = 1 ∨ d = 2 ∨ d = 3 ∨ d = 4 ∨ d = 5 ∨ d = 6 ∨ d = 7 ∨ d = 8 ∨ d = 9) with rfl | rfl | rfl | rfl | rfl | rfl | rfl | rfl | rfl | rfl
  · exact ⟨8304, dec_three 176 (by decide) y, by decide, by decide, by decide, by decide, by decide⟩
  · exact ⟨185, dec_two 185 (by decide) y, by decide, by decide, by decide, by decide, by decide⟩
  · exact ⟨178, dec_two 178 (by decide) y, by decide, by decide, by decide, by decide, by decide⟩
  · exact ⟨179, dec_two 179 (by decide) y, by decide, by decide, by decide, by decide, by decide⟩
  · exact ⟨8308, dec_three 180 (by decide) y, by decide, by decide, by decide, by decide, by decide⟩
  · exact ⟨8309, dec_three 181 (by decide) y, by decide, by decide, by decide, by decide, by decide⟩
  · exact ⟨8310, dec_three 182 (by decide) y, by decide, by decide, by decide, by decide, by decide⟩
  · exact ⟨8311, dec_three 183 (by decide) y, by decide, by decide, by decide, by decide, by decide⟩
  · exact ⟨8312, dec_three 184 (by decide) y, by decide, by decide, by decide, by decide, by decide⟩
  · exact ⟨8313, dec_three 185 (by decide) y, by decide, by decide, by decide, by decide, by decide⟩
def rise (L : List UInt8) : List UInt8 := L.flatMap fun c => Lib.encodeRune (digR c)
def addUp (L : List UInt8) (a : Nat) : Nat := L.foldl (fun a c => min (a * 10 + (c.toNat - 48)) 100) a
theorem lt_of_drop {s : ByteArray} {p : Nat} {l : List UInt8} (h : s.data.toList.drop p = l) (h0 : l ≠ []) : p < s.size := by
  apply Decidable.byContradiction
  intro hn
  rw [List.drop_eq_nil_of_le (by rw [toL]; omega)] at h
  exact h0 h.symm
theorem pw_digits (s : ByteArray) (rest : List UInt8) (hrest : rest = [] ∨ ∃ y, rest = 109 :: y) : ∀ (L : List UInt8) (p a z : Nat) (b : Bool) (a' z' : Nat) (b' : Bool), (∀ c ∈ L, 48 ≤ c.toNat ∧ c.toNat ≤ 57) → s.data.toList.drop p = rise L ++ rest → Pw s p a z b a' z' b' → a' = addUp L a ∧ z' = (if L = [] then z else p + (rise L).length) ∧ b' = b
  | [], p, a, z, b, a', z', b', _, hd, h => by
    have hd' : s.data.toList.drop p = rest := hd
    rcases hrest with rfl | ⟨y, rfl⟩
    · have hn : ¬ p < s.size := by
        have := congrArg List.length hd'
        rw [List.length_drop, toL] at this
        simp at this
        omega
      cases h with
      | done _ _ _ _ _ => exact ⟨rfl, rfl, rfl⟩
      | sign _ _ _ _ _ _ _ hp => exact absurd hp hn
      | stop _ _ _ _ hp => exact absurd hp hn
      | step _ _ _ _ _ _ _ hp => exact absurd hp hn
    · have hdec : Utf8.decode s p = (109, 1) := by rw [← decodeL_at, hd', dec_m]
      have hlt : p < s.size := lt_of_drop hd' (by simp)
      cases h with
      | done _ _ _ _ hn => exact absurd hlt hn
      | sign _ _ _ _ _ _ _ _ _ hs => rw [hdec] at hs; exact absurd hs (by decide)
      | stop _ _ _ _ _ _ _ => exact ⟨rfl, rfl, rfl⟩
      | step _ _ _ _ _ _ _ _ _ hf => rw [hdec] at hf; exact absurd hf (by decide)
  | c :: L, p, a, z, b, a', z', b', hL, hd, h => by
    have hc := hL c (by simp)
    have hd' : s.data.toList.drop p = Lib.encodeRune (digR c) ++ (rise L ++ rest) := by rw [hd]; simp [rise]
    obtain ⟨r, hr, hf, hs1, hs2, hfl, hl0⟩ := dig_dec c hc (rise L ++ rest)
    have hdec : Utf8.decode s p = (r, (Lib.encodeRune (digR c)).length) := by rw [← decodeL_at, hd', hr]
    have hlt : p < s.size := lt_of_drop hd' (by intro e; rw [List.append_eq_nil_iff] at e; rw [e.1] at hl0; exact absurd hl0 (by simp))
    have hnx : s.data.toList.drop (p + (Lib.encodeRune (digR c)).length) = rise L ++ rest := by
      rw [← List.drop_drop, hd', List.drop_left]
    cases h with
    | done _ _ _ _ hn => exact absurd hlt hn
    | sign _ _ _ _ _ _ _ _ _ hs => rw [hdec] at hs; exact absurd hs (by simp [hs1, hs2])
    | stop _ _ _ _ _ _ hf' => rw [hdec] at hf'; exact absurd (show figOf (r : Int) < 10 by omega) hf'
    | step _ _ _ _ _ _ _ _ _ _ h2 =>
      rw [hdec] at h2
      obtain ⟨e1, e2, e3⟩ := pw_digits s rest hrest L _ _ _ _ _ _ _ (fun x hx => hL x (by simp [hx])) hnx h2
      refine ⟨?_, ?_, e3⟩
      · rw [e1, hf]; rfl
      · rw [e2, hfl]
        have hlen : (rise (c :: L)).length = (Lib.encodeRune (digR c)).length + (rise L).length := by simp [rise]
        simp only [List.cons_ne_nil, if_false]
        split
        · rename_i e
          subst e
          simp [rise]
        · omega
theorem digits_all (k : Nat) (hk : k < 100) : (Lib.decDigits k).all (fun c => decide (48 ≤ c.toNat) && decide (c.toNat ≤ 57)) = true ∧ addUp (Lib.decDigits k) 0 = k ∧ Lib.decDigits k ≠ [] ∧ 0 < (rise (Lib.decDigits k)).length := by
  revert k
  decide +kernel
/-- What is read out of the raised text. -/
theorem pw_raised (n : Int) (h0 : -99 ≤ n) (h1 : n ≤ 99) (s : ByteArray) (rest : List UInt8) (hrest : rest = [] ∨ ∃ y, rest = 109 :: y) (hs : s.data.toList = raiseT n ++ rest) (a z : Nat) (b : Bool) (h : Pw s 0 0 0 false a z b) :
    powV a z b = .tuple #[.int .i64 n, .int .i64 ((raiseT n).length : Nat), .int .i64 0] := by
  by_cases hneg : n < 0
  · obtain ⟨k, rfl⟩ : ∃ k : Nat, n = -(k : Int) := ⟨n.natAbs, by omega⟩
    have hk : k < 100 := by omega
    obtain ⟨hall, hsum, hne, hpos⟩ := digits_all k hk
    have hit : Lib.itoa (-(k : Int)) = 45 :: Lib.decDigits k := by unfold Lib.itoa; rw [if_pos hneg]; simp
    have hrt : raiseT (-(k : Int)) = [226, 129, 187] ++ rise (Lib.decDigits k) := by unfold raiseT rise; rw [hit]; rfl
    rw [hrt] at hs ⊢
    have hd0 : s.data.toList.drop 0 = 226 :: 129 :: 187 :: (rise (Lib.decDigits k) ++ rest) := by rw [List.drop_zero, hs]; rfl
    have hdec : Utf8.decode s 0 = (8315, 3) := by rw [← decodeL_at, hd0, dec_three 187 (by decide)]; rfl
    have hlt : 0 < s.size := lt_of_drop hd0 (by simp)
    have hd3 : s.data.toList.drop 3 = rise (Lib.decDigits k) ++ rest := by rw [hs]; rfl
    cases h with
    | done _ _ _ _ hn => exact absurd hlt hn
    | stop _ _ _ _ _ hns => exact absurd ⟨rfl, .inr (by rw [hdec])⟩ hns
    | step _ _ _ _ _ _ _ _ hns => exact absurd ⟨rfl, .inr (by rw [hdec])⟩ hns
    | sign _ _ _ _ _ _ _ _ _ _ h2 =>
      rw [hdec] at h2
      obtain ⟨e1, e2, e3⟩ := pw_digits s rest hrest _ 3 _ _ _ _ _ _ (fun c hc => by simpa using (List.all_eq_true.1 hall) c hc) hd3 h2
      rw [hsum] at e1
      rw [if_neg hne] at e2
      subst e1 e2 e3
      rw [show decide ((8315, 3).1 = 8315) = true from rfl, powV_neg _ _ (by omega) (by omega)]
      simp; omega
  · obtain ⟨k, rfl⟩ : ∃ k : Nat, n = (k : Int) := ⟨n.toNat, by omega⟩
    have hk : k < 100 := by omega
    obtain ⟨hall, hsum, hne, hpos⟩ := digits_all k hk
    have hit : Lib.itoa (k : Int) = Lib.decDigits k := by unfold Lib.itoa; rw [if_neg hneg]; simp
    have hrt : raiseT (k : Int) = rise (Lib.decDigits k) := by unfold raiseT rise; rw [hit]
    rw [hrt] at hs ⊢
    obtain ⟨e1, e2, e3⟩ := pw_digits s rest hrest _ 0 _ _ _ _ _ _ (fun c hc => by simpa using (List.all_eq_true.1 hall) c hc) (by rw [List.drop_zero, hs]) h
    rw [hsum] at e1
    rw [if_neg hne] at e2
    subst e1 e2 e3
    rw [powV_pos _ _ (by omega) (by omega)]
    simp
end Go.Proofs.YtiooiacebgojiabDoor
