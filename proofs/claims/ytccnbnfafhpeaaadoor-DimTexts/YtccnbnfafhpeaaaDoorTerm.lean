/- dim.term: a letter, and its exponent where it is not 1. -/
import Derived.Test.YtccnbnfafhpeaaaDoorRight
import Derived.Lib.ItoaNum
import Derived.Lib.ItoaLen
import Derived.Lib.LaidTab
import Derived.Deep.Cut
namespace Go.Proofs.YtccnbnfafhpeaaaDoor
open Go.RowKit

def Tab (w : World) : Prop := Lib.TabIs Tryd.prog w "internal/strconv.uint64pow10" .u64 Lib.pow10Tab
/-- The letters, in their order. -/
def lettersL : List Nat := [76, 77, 84, 73, 72, 78, 74, 66]
theorem enc_letter (r : Nat) (h : r ∈ lettersL) : Utf8.encode (r : Int) = ⟨#[UInt8.ofNat r]⟩ := by
  simp only [lettersL, List.mem_cons, List.not_mem_nil, or_false] at h
  rcases h with rfl | rfl | rfl | rfl | rfl | rfl | rfl | rfl <;> kernel_rfl
/-- A term's text. -/
def termText (r : Nat) (x : Int) : List UInt8 := if x = 1 then [UInt8.ofNat r] else UInt8.ofNat r :: 94 :: Lib.itoa x
/-- What strconv.Itoa answers. -/
def ItoaOK : Prop := ∀ (n : Int) (w : World), -9223372036854775808 ≤ n → n ≤ 9223372036854775807 → Tab w → Calls Tryd.prog 43 #[.int .i64 n] w fun e w' => e = .returned (.string ⟨(Lib.itoa n).toArray⟩) ∧ Below w.heap.size w w'

theorem cat3 (a b : UInt8) (T : List UInt8) : (⟨#[a]⟩ ++ ⟨#[b]⟩ ++ ⟨T.toArray⟩ : ByteArray) = ⟨(a :: b :: T).toArray⟩ := by
  apply ByteArray.ext
  simp [ByteArray.data_append]

set_option maxRecDepth 100000 in
set_option maxHeartbeats 400000 in
theorem term_any (hI : ItoaOK) (r : Nat) (x : Int) (w : World) (hr : r ∈ lettersL) (hx : -99 ≤ x ∧ x ≤ 99) (ht : Tab w) :
    Calls Tryd.prog 41 #[.int .i32 (r : Int), .int .i64 x] w fun e w' => e = .returned (.string ⟨(termText r x).toArray⟩) ∧ Below w.heap.size w w' := by
  have hc := enc_letter r hr
  have HI := hide hI
  have HT := hide ht
  clear hI ht hr
  unfold termText
  by_cases h1 : x = 1
  · subst h1
    rw [if_pos rfl]
    go_enter Tryd.func41, Tryd.ntmps41
    go_wp2
    go_ret
    exact ⟨rfl, Below.refl _ _⟩
  · rw [if_neg h1]
    have hx1 : (x == 1) = false := by simp [h1]
    have hll : (Lib.itoa x).length ≤ 21 := (Lib.itoa_length_le x (by omega) (by omega))
    have HC := hide (unhide HI x w (by omega) (by omega) (unhide HT))
    clear h1 hx
    generalize Lib.itoa x = T at *
    go_enter Tryd.func41, Tryd.ntmps41
    go_wp2_with (go_at_call 43; refine (unhide HC).mono ?_; rintro e w' ⟨rfl, hb⟩)
    go_ret
    exact ⟨by rw [← cat3]; rfl, hb⟩
end Go.Proofs.YtccnbnfafhpeaaaDoor
