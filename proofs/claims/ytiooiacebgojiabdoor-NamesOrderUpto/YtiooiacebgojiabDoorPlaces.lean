/- The places of a text at which its runes begin, and their codes (a broken byte has one of its own). -/
import Derived.Test.YtiooiacebgojiabDoorRight
import Derived.Lib.TrimUEq
import Derived.Lib.RuneCount
import Derived.Laws.RangeAny
import Derived.Shelf.Unicode.DecodeSlow
namespace Go.Proofs.YtiooiacebgojiabDoor
open Go.RowKit

def placesF (s : ByteArray) : Nat → Nat → List Nat
  | 0, _ => []
  | n + 1, p => if p < s.size then p :: placesF s n (p + (Utf8.decode s p).2) else []
/-- The places from p on. -/
def places (s : ByteArray) (p : Nat) : List Nat := placesF s (s.size - p) p
theorem placesF_fuel (s : ByteArray) : ∀ (n m p : Nat), s.size - p ≤ n → s.size - p ≤ m → placesF s n p = placesF s m p
  | 0, 0, _, _, _ => rfl
  | 0, m + 1, p, h1, _ => by
    unfold placesF
    rw [if_neg (by omega)]
  | n + 1, 0, p, _, h2 => by
    unfold placesF
    rw [if_neg (by omega)]
  | n + 1, m + 1, p, h1, h2 => by
    unfold placesF
    by_cases h : p < s.size
    · rw [if_pos h, if_pos h]
      have hw := Lib.decode_width_pos s p h
      rw [placesF_fuel s n m (p + (Utf8.decode s p).2) (by omega) (by omega)]
    · rw [if_neg h, if_neg h]
theorem places_step (s : ByteArray) (p : Nat) (h : p < s.size) : places s p = p :: places s (p + (Utf8.decode s p).2) := by
  have hw := Lib.decode_width_pos s p h
  unfold places
  obtain ⟨k, hk⟩ : ∃ k, s.size - p = k + 1 := ⟨s.size - p - 1, by omega⟩
  rw [hk]
  show (if p < s.size then p :: placesF s k (p + (Utf8.decode s p).2) else []) = _
  rw [if_pos h, placesF_fuel s k (s.size - (p + (Utf8.decode s p).2)) _ (by omega) (by omega)]
theorem places_end (s : ByteArray) (p : Nat) (h : ¬ p < s.size) : places s p = [] := by
  unfold places
  rw [show s.size - p = 0 by omega]
  rfl
theorem placesF_len (s : ByteArray) : ∀ (n p : Nat), (placesF s n p).length ≤ n
  | 0, _ => by simp [placesF]
  | n + 1, p => by
    unfold placesF
    split
    · have := placesF_len s n (p + (Utf8.decode s p).2)
      simp; omega
    · simp
theorem places_len (s : ByteArray) (p : Nat) : (places s p).length ≤ s.size - p := placesF_len s _ p
theorem placesF_lt (s : ByteArray) : ∀ (n p q : Nat), q ∈ placesF s n p → q < s.size
  | 0, _, _, h => by simp [placesF] at h
  | n + 1, p, q, h => by
    unfold placesF at h
    split at h
    · rcases List.mem_cons.1 h with rfl | h
      · assumption
      · exact placesF_lt s n _ q h
    · simp at h
/-- A broken byte. -/
def brokenAt (s : ByteArray) (p : Nat) : Bool := (Utf8.decode s p).1 == 65533 && (Utf8.decode s p).2 == 1
/-- The code of the rune at a place. -/
def codeAt (s : ByteArray) (p : Nat) : Int := if brokenAt s p then 1114112 + ((s.get! p).toNat : Int) else ((Utf8.decode s p).1 : Int)
def codes (s : ByteArray) : List Int := (places s 0).map (codeAt s)
theorem codes_len (s : ByteArray) : (codes s).length ≤ s.size := by
  unfold codes
  rw [List.length_map]
  exact places_len s 0
theorem decode_tail (s : ByteArray) (p : Nat) (h : p < s.size) : Lib.decodeGo (s.extract p s.size) = Utf8.decode s p := by
  have hd : (s.extract p s.size).data.toList = s.data.toList.drop p := by
    have hl : s.data.toList.length = s.size := by simp
    simp only [ByteArray.extract, ByteArray.copySlice]
    simp [hl, List.take_of_length_le]
  have h0 : (s.extract p s.size).size ≠ 0 := by
    have hl : (s.extract p s.size).data.toList.length = (s.extract p s.size).size := by simp
    rw [← hl, hd, List.length_drop]
    have : s.data.toList.length = s.size := by simp
    omega
  unfold Lib.decodeGo
  rw [if_neg h0, ← Lib.decodeL_drop s p, ← Lib.decodeL_drop (s.extract p s.size) 0, hd]
  rfl
theorem cell_lt {w : World} {g o : Nat} {v : Value} (h : w.cell? ⟨g, o, none⟩ = some v) : g < w.heap.size := by
  apply Decidable.byContradiction
  intro hn
  have : w.heap[g]? = none := Array.getElem?_eq_none (by omega)
  simp [World.cell?, this] at h
theorem tabs_later {w w' : World} (h : Lib.Utf8Tabs 0 1 w) (hb : Below w.heap.size w w') : Lib.Utf8Tabs 0 1 w' := by
  refine ⟨fun c hc => (hb.cell (p := ⟨0, c, none⟩) (cell_lt (h.1 c hc))).trans (h.1 c hc), fun i hi => ⟨?_, ?_⟩⟩
  · exact (hb.cell (p := ⟨1, 2 * i, none⟩) (cell_lt (h.2 i hi).1)).trans (h.2 i hi).1
  · exact (hb.cell (p := ⟨1, 2 * i + 1, none⟩) (cell_lt (h.2 i hi).2)).trans (h.2 i hi).2
theorem tabs_lt {w : World} (h : Lib.Utf8Tabs 0 1 w) : 1 < w.heap.size := cell_lt (h.2 0 (by decide)).1
end Go.Proofs.YtiooiacebgojiabDoor
