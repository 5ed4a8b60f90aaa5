/- One small letter more behind a text: one code more. -/
import Derived.Test.YtiooiacebgojiabDoorText
namespace Go.Proofs.YtiooiacebgojiabDoor
open Go.RowKit

theorem push_size (s : ByteArray) (c : UInt8) : (s.push c).size = s.size + 1 := by simp
theorem push_get (s : ByteArray) (c : UInt8) (i : Nat) (h : i < s.size) : (s.push c).get! i = s.get! i := by
  have hs : s.data.size = s.size := rfl
  simp [ByteArray.get!, ByteArray.push, Array.getElem!_eq_getD, Array.getD_eq_getD_getElem?, Array.getElem?_push, hs, Nat.ne_of_lt h]
theorem push_last (s : ByteArray) (c : UInt8) : (s.push c).get! s.size = c := by
  show (s.data.push c)[s.data.size]! = c
  rw [getElem!_pos (s.data.push c) s.data.size (by simp)]
  exact Array.getElem_push_eq
/-- Does a byte go on with a rune? -/
def contAt (s : ByteArray) (i k : Nat) : Bool := decide (i + k < s.size) && ((s.get! (i + k)).toNat / 64 == 2)
theorem decode_open (s : ByteArray) (i : Nat) : Utf8.decode s i =
    if (s.get! (i + 0)).toNat < 0x80 then ((s.get! (i + 0)).toNat, 1)
    else if ((s.get! (i + 0)).toNat / 32 == 6 && contAt s i 1) = true then
      if ((s.get! (i + 0)).toNat % 32) * 64 + (s.get! (i + 1)).toNat % 64 ≥ 0x80 then (((s.get! (i + 0)).toNat % 32) * 64 + (s.get! (i + 1)).toNat % 64, 2) else (65533, 1)
    else if ((s.get! (i + 0)).toNat / 16 == 14 && contAt s i 1 && contAt s i 2) = true then
      if (decide (((s.get! (i + 0)).toNat % 16) * 4096 + ((s.get! (i + 1)).toNat % 64) * 64 + (s.get! (i + 2)).toNat % 64 ≥ 0x800) && Utf8.valid (((((s.get! (i + 0)).toNat % 16) * 4096 + ((s.get! (i + 1)).toNat % 64) * 64 + (s.get! (i + 2)).toNat % 64 : Nat)) : Int)) = true then (((s.get! (i + 0)).toNat % 16) * 4096 + ((s.get! (i + 1)).toNat % 64) * 64 + (s.get! (i + 2)).toNat % 64, 3) else (65533, 1)
    else if ((s.get! (i + 0)).toNat / 8 == 30 && contAt s i 1 && contAt s i 2 && contAt s i 3) = true then
      if (decide (((s.get! (i + 0)).toNat % 8) * 262144 + ((s.get! (i + 1)).toNat % 64) * 4096 + ((s.get! (i + 2)).toNat % 64) * 64 + (s.get! (i + 3)).toNat % 64 ≥ 0x10000) && Utf8.valid (((((s.get! (i + 0)).toNat % 8) * 262144 + ((s.get! (i + 1)).toNat % 64) * 4096 + ((s.get! (i + 2)).toNat % 64) * 64 + (s.get! (i + 3)).toNat % 64 : Nat)) : Int)) = true then (((s.get! (i + 0)).toNat % 8) * 262144 + ((s.get! (i + 1)).toNat % 64) * 4096 + ((s.get! (i + 2)).toNat % 64) * 64 + (s.get! (i + 3)).toNat % 64, 4) else (65533, 1)
    else (65533, 1) := by rfl
theorem cont_push (s : ByteArray) (c : UInt8) (hc : c.toNat < 128) (i k : Nat) : contAt (s.push c) i k = contAt s i k := by
  unfold contAt
  rw [push_size]
  by_cases h : i + k < s.size
  · rw [push_get s c _ h]
    simp [h, Nat.lt_succ_of_lt h]
  · by_cases e : i + k = s.size
    · rw [e, push_last]
      have : ¬ c.toNat / 64 = 2 := by omega
      simp [this]
    · have : ¬ i + k < s.size + 1 := by omega
      simp [h, this]
theorem decode_push (s : ByteArray) (c : UInt8) (hc : c.toNat < 128) (i : Nat) (h : i < s.size) : Utf8.decode (s.push c) i = Utf8.decode s i := by
  have g0 : (s.push c).get! (i + 0) = s.get! (i + 0) := push_get s c i h
  have g : ∀ k, contAt s i k = true → (s.push c).get! (i + k) = s.get! (i + k) := fun k hk => push_get s c _ (by unfold contAt at hk; simp at hk; exact hk.1)
  rw [decode_open, decode_open]
  simp only [cont_push s c hc, g0]
  cases c1 : contAt s i 1
  · simp
  · rw [g 1 c1]
    cases c2 : contAt s i 2
    · simp
    · rw [g 2 c2]
      cases c3 : contAt s i 3
      · simp
      · rw [g 3 c3]
theorem places_push (s : ByteArray) (c : UInt8) (hc : c.toNat < 128) : ∀ (n p : Nat), s.size - p ≤ n → p ≤ s.size → places (s.push c) p = places s p ++ [s.size]
  | n, p, hn, hp => by
    by_cases h : p < s.size
    · obtain ⟨n, rfl⟩ : ∃ m, n = m + 1 := ⟨n - 1, by omega⟩
      have hw := Lib.decode_width_pos s p h
      have hl := width_le s p h
      rw [places_step s p h, places_step (s.push c) p (by rw [push_size]; omega), decode_push s c hc p h, places_push s c hc n _ (by omega) hl]
      rfl
    · have e : p = s.size := by omega
      subst e
      rw [places_end s s.size (by omega), places_step (s.push c) s.size (by rw [push_size]; omega), places_end]
      · rfl
      · have := Lib.decode_width_pos (s.push c) s.size (by rw [push_size]; omega)
        rw [push_size]
        omega
theorem codes_push (s : ByteArray) (c : UInt8) (hc : c.toNat < 128) : codes (s.push c) = codes s ++ [((c.toNat : Nat) : Int)] := by
  unfold codes
  rw [places_push s c hc _ 0 (Nat.le_refl _) (Nat.zero_le _), List.map_append]
  congr 1
  · refine List.map_congr_left fun p hp => ?_
    have hlt : p < s.size := placesF_lt s _ _ p hp
    unfold codeAt brokenAt
    rw [decode_push s c hc p hlt, push_get s c p hlt]
  · have hd : Utf8.decode (s.push c) s.size = (c.toNat, 1) := by
      rw [decode_open]
      simp only [Nat.add_zero, push_last]
      rw [if_pos hc]
    simp only [List.map_cons, List.map_nil]
    unfold codeAt brokenAt
    rw [hd]
    have : ¬ c.toNat = 65533 := by omega
    simp [this]
end Go.Proofs.YtiooiacebgojiabDoor
