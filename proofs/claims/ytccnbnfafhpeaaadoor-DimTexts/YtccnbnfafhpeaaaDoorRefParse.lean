/- The document's own Parse. -/
import Derived.Test.YtccnbnfafhpeaaaDoorRefTerm2
import Derived.Test.YtccnbnfafhpeaaaDoorParseAny
namespace Go.Proofs.YtccnbnfafhpeaaaDoor
open Go.RowKit

theorem refTerm_any (s : ByteArray) (p : Nat) (w : World) (hp : p ≤ s.size) (hs : s.size ≤ 9223372036854775807) : TermRet s p w := by
  by_cases h0 : p = s.size
  · subst h0; exact term_nothing s w
  · cases h : placeOf (byteAt s p : Int) with
    | none => exact term_noletter s p w (by omega) h
    | some k =>
      by_cases h1 : p + 1 = s.size
      · exact term_bare1 s p k w (by omega) hs h h1
      · by_cases h2 : byteAt s (p + 1) = 94
        · by_cases h3 : p + 2 = s.size
          · exact term_short s p k w h3 hs h h2
          · by_cases h4 : byteAt s (p + 2) = 45
            · exact term_less s p k w (by omega) hs h h2 h4
            · exact term_plus s p k w (by omega) hs h h2 h4
        · exact term_bare2 s p k w (by omega) hs h h2
theorem pre_byte (s : ByteArray) : Lib.hasPrefix s.data.toList [49] = true ↔ 0 < s.size ∧ byteAt s 0 = 49 := by
  unfold Lib.hasPrefix byteAt
  have hl : s.data.toList.length = s.size := by simp
  rw [← hl]
  cases s.data.toList with
  | nil => simp [List.isPrefixOf]
  | cons a t =>
    simp only [List.isPrefixOf, List.length_cons, List.getD_cons_zero, Bool.and_true, beq_iff_eq]
    constructor
    · rintro rfl; exact ⟨by omega, rfl⟩
    · rintro ⟨_, h⟩; exact UInt8.toNat_inj.1 (by rw [h]; rfl)
def sgnI (u : Bool) : Int := if u = true then -1 else 1
theorem sgnI_mul (u : Bool) (n : Int) : sgnI u * n = sgn u n := by cases u <;> simp [sgnI, sgn]
/-- The reader of the document, ahead of a term. -/
def RefAt (s : ByteArray) (O : Out) (w : World) (a b : Value) (wr : World) : Prop := ∃ (p : Nat) (d : List Int) (u : Bool), a = .int .i64 (p : Int) ∧ b = .int .i64 (sgnI u) ∧ p ≤ s.size ∧ d.length = 8 ∧ rightB d = true ∧ Hid (Own8 wr w.heap.size zeros) ∧ Hid (Own8 wr (w.heap.size + 1) d) ∧ Hid (scan s p (fresh d u) = O) ∧ Hid (Below w.heap.size w wr)

set_option maxRecDepth 100000 in
set_option maxHeartbeats 400000 in
theorem refParse_one (w : World) : Calls Tryd.prog 25 #[.string ⟨#[49]⟩] w fun e w' => e = .returned (outV (.done zeros)) ∧ Below w.heap.size w w' := by
  go_enter Tryd.func25, Tryd.ntmps25
  go_wp2
  exact bodyPost_ret (v := .tuple #[.agg #[.int .i64 0, .int .i64 0, .int .i64 0, .int .i64 0, .int .i64 0, .int .i64 0, .int .i64 0, .int .i64 0], .int .i64 0, .int .i64 0]) (by simp [results, Tryd.results25, go_sem]) rfl ⟨rfl, (Below.refl _ _).alloc (Nat.le_refl _) _⟩
theorem toList_ne (s : ByteArray) (h : s ≠ ⟨#[49]⟩) : (s.toList == [49]) = false := by
  rw [beq_eq_false_iff_ne, Lib.toList_data]
  intro e
  apply h
  apply ByteArray.ext
  apply Array.ext'
  exact e
set_option maxRecDepth 100000 in
set_option maxHeartbeats 400000 in
theorem refParse_long (s : ByteArray) (w : World) (hne : s ≠ ⟨#[49]⟩) (h0 : 0 < s.size) (h49 : byteAt s 0 = 49) : Calls Tryd.prog 25 #[.string s] w fun e w' => e = .returned (outV (.err 3 1)) ∧ Below w.heap.size w w' := by
  have hn := toList_ne s hne
  have he := not_empty_of s h0
  have hI : ∀ h : 0 < s.size, (s[0]'h).toNat = 49 := fun h => (byteAt_eq s 0 h).symm.trans h49
  clear hne h49
  go_enter Tryd.func25, Tryd.ntmps25
  go_wp2
  exact bodyPost_ret (v := .tuple #[.agg #[.int .i64 0, .int .i64 0, .int .i64 0, .int .i64 0, .int .i64 0, .int .i64 0, .int .i64 0, .int .i64 0], .int .i64 3, .int .i64 1]) (by simp [results, Tryd.results25, go_sem]) rfl ⟨rfl, ((Below.refl _ _).alloc (Nat.le_refl _) _).alloc (by simp) _⟩
end Go.Proofs.YtccnbnfafhpeaaaDoor
