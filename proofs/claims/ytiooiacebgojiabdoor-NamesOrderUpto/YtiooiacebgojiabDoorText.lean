/- Texts by their codes: of two texts with the same codes there is one; one small letter more is one code more. -/
import Derived.Test.YtiooiacebgojiabDoorPlaces
import Derived.Lib.MapLaws
namespace Go.Proofs.YtiooiacebgojiabDoor
open Go.RowKit

theorem toL (s : ByteArray) : s.data.toList.length = s.size := by simp
theorem decodeL_at (s : ByteArray) (p : Nat) : Lib.decodeL (s.data.toList.drop p) = Utf8.decode s p := Lib.decodeL_drop s p
theorem width_le (s : ByteArray) (p : Nat) (h : p < s.size) : p + (Utf8.decode s p).2 ≤ s.size := by
  have hne : s.data.toList.drop p ≠ [] := by
    intro e
    have := congrArg List.length e
    rw [List.length_drop, toL] at this
    simp at this
    omega
  have h1 := Lib.decodeL_le (s.data.toList.drop p) hne
  rw [decodeL_at, List.length_drop, toL] at h1
  omega
/-- The bytes of a code. -/
def bytesOf (c : Int) : List UInt8 := if c < 1114112 then Lib.encodeRune c else [UInt8.ofNat (c - 1114112).toNat]
theorem decode_rune_le (s : ByteArray) (p : Nat) : (Utf8.decode s p).1 ≤ 1114111 := by
  rw [← decodeL_at]
  exact Lib.decodeL_rune _
theorem bytes_at (s : ByteArray) (p : Nat) (h : p < s.size) : bytesOf (codeAt s p) = (s.data.toList.drop p).take (Utf8.decode s p).2 := by
  have hne : s.data.toList.drop p ≠ [] := by
    intro e
    have := congrArg List.length e
    rw [List.length_drop, toL] at this
    simp at this
    omega
  unfold codeAt
  cases hb : brokenAt s p
  · have hr := decode_rune_le s p
    rw [if_neg (by simp)]
    unfold bytesOf
    rw [if_pos (by omega), ← decodeL_at]
    refine Lib.encode_decode _ hne ?_
    rw [decodeL_at]
    unfold brokenAt at hb
    intro hc
    simp [hc.1, hc.2] at hb
  · rw [if_pos rfl]
    unfold bytesOf
    rw [if_neg (by omega)]
    have hw : (Utf8.decode s p).2 = 1 := by unfold brokenAt at hb; simp at hb; exact hb.2
    rw [hw]
    have hd : s.data.toList.drop p = (s.get! p) :: s.data.toList.drop (p + 1) := by
      rw [List.drop_eq_getElem_cons (by rw [toL]; exact h)]
      congr 1
      simp [ByteArray.get!, getElem!_pos, h]
    rw [hd, show (1114112 + ((s.get! p).toNat : Int) - 1114112).toNat = (s.get! p).toNat by omega]
    simp
theorem drop_places (s : ByteArray) : ∀ (n p : Nat), s.size - p ≤ n → s.data.toList.drop p = ((places s p).map (codeAt s)).flatMap bytesOf
  | n, p, hn => by
    by_cases h : p < s.size
    · obtain ⟨n, rfl⟩ : ∃ m, n = m + 1 := ⟨n - 1, by omega⟩
      have hw := Lib.decode_width_pos s p h
      have ih := drop_places s n (p + (Utf8.decode s p).2) (by omega)
      rw [places_step s p h, List.map_cons, List.flatMap_cons, bytes_at s p h, ← ih]
      conv => lhs; rw [← List.take_append_drop (Utf8.decode s p).2 (s.data.toList.drop p)]
      rw [List.drop_drop]
    · rw [places_end s p h]
      simp
      omega
theorem text_codes (s : ByteArray) : s.data.toList = (codes s).flatMap bytesOf := by
  have h := drop_places s _ 0 (Nat.le_refl _)
  rw [List.drop_zero] at h
  exact h
theorem codes_inj {a b : ByteArray} (h : codes a = codes b) : a = b := by
  have e : a.data.toList = b.data.toList := by rw [text_codes a, text_codes b, h]
  have e2 : a.data = b.data := Array.toList_inj.1 e
  cases a; cases b
  simpa using e2
end Go.Proofs.YtiooiacebgojiabDoor
