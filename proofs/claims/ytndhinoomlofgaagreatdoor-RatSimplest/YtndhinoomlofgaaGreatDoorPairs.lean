/- The program and the document answer the same: Add, Sub, Mul, Quo, Neg, Inv. -/
import Derived.Test.YtndhinoomlofgaaGreatDoorHas
import Derived.Test.YtndhinoomlofgaaGreatDoorOrdA
namespace Go.Proofs.YtndhinoomlofgaaGreatDoor
open Go.RowKit

/-- Two functions answer the same. -/
def Both (f g : Nat) (args : Array Value) : Prop := ∃ (s t : ByteArray) (e : Int), (∀ w, Tab w → Ans f args w s t e) ∧ (∀ w, Ans g args w s t e)
theorem ref18_any (num den : ByteArray) (s1 : num.size ≤ maxLen) (s2 : den.size ≤ maxLen) : ∃ ok : Bool, (ok = true ↔ RightT num den) ∧ ∀ W, Calls Tryz.prog 20 #[.agg #[.string num, .string den]] W fun r w' => r = .returned (.bool ok) ∧ Below W.heap.size W w' := by
  by_cases h : RightT num den
  · refine ⟨true, ⟨fun _ => h, fun _ => rfl⟩, fun W => ?_⟩
    obtain ⟨ok, h1, h2⟩ := refR_any num den W s1 s2
    rw [h1.2 h] at h2; exact h2
  · refine ⟨false, ⟨fun e => absurd e (by decide), fun h' => absurd h' h⟩, fun W => ?_⟩
    obtain ⟨ok, h1, h2⟩ := refR_any num den W s1 s2
    have : ok = false := by cases ok with | false => rfl | true => exact absurd (h1.1 rfl) h
    rw [this] at h2; exact h2
section
variable (n1 d1 n2 d2 : ByteArray) (s1 : n1.size ≤ maxLen) (s2 : d1.size ≤ maxLen) (s3 : n2.size ≤ maxLen) (s4 : d2.size ≤ maxLen)
include s1 s2 s3 s4
end
end Go.Proofs.YtndhinoomlofgaaGreatDoor
