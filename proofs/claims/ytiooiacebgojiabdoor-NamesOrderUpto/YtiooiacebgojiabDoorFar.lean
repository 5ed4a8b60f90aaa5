/- names.Far, at every two texts; at the document's own example. -/
import Derived.Test.YtiooiacebgojiabDoorChanges
import Derived.Test.YtiooiacebgojiabDoorDist
import Derived.Test.YtiooiacebgojiabDoorRunes
namespace Go.Proofs.YtiooiacebgojiabDoor
open Go.RowKit

/-- How far two texts are from one another. -/
def farN (a b : ByteArray) : Int := dF (fun i => (codes a).getD i 0) (fun i => (codes b).getD i 0) (codes a).length (codes b).length
def farV (a b : ByteArray) : Value := if 40 < a.size ∨ 40 < b.size then .tuple #[.int .i64 0, .int .i64 4] else .tuple #[.int .i64 (farN a b), .int .i64 0]
theorem Runes.later {w w' : World} {v : Value} {n : Nat} {a : Nat → Int} (h : Runes w v n a) (hb : Below w.heap.size w w') : Runes w' v n a := by
  obtain ⟨p, c, rfl, h1, h2⟩ := h
  refine ⟨p, c, rfl, h1, fun h0 => ?_⟩
  obtain ⟨g, o, rfl, hg, hc⟩ := h2 h0
  exact ⟨g, o, rfl, Nat.lt_of_lt_of_le hg hb.size, fun i hi => (hb.cell (p := ⟨g, o + i, none⟩) hg).trans (hc i hi)⟩

set_option maxRecDepth 100000 in
set_option maxHeartbeats 1000000 in
theorem far_any (a b : ByteArray) (w : World) (hT : Lib.Utf8Tabs 0 1 w) : Calls Tryd.prog 17 #[.string a, .string b] w fun e w' => e = .returned (farV a b) ∧ Below w.heap.size w w' := by
  have HT := hide hT
  clear hT
  go_enter Tryd.func17, Tryd.ntmps17
  by_cases h1 : 40 < a.size
  · have HV : Hid (farV a b = .tuple #[.int .i64 0, .int .i64 4]) := if_pos (.inl h1)
    go_wp2
    go_ret2
    exact ⟨by rw [unhide HV]; rfl, Below.refl _ _⟩
  · by_cases h2 : 40 < b.size
    · have HV : Hid (farV a b = .tuple #[.int .i64 0, .int .i64 4]) := if_pos (.inr h2)
      go_wp2
      go_ret2
      exact ⟨by rw [unhide HV]; rfl, Below.refl _ _⟩
    · have HV : Hid (farV a b = .tuple #[.int .i64 (farN a b), .int .i64 0]) := if_neg (by omega)
      have HR := hide (runes_any a w (by omega) (unhide HT))
      have HR2 := hide (fun W (h : Lib.Utf8Tabs 0 1 W) => runes_any b W (by omega) h)
      go_wp2_with (first
        | (go_at_call_of 34 (Value.string a); refine (unhide HR).mono ?_; rintro e w1 ⟨v1, rfl, hr1, hb1⟩; have HR1 := hide hr1; have HB1 := hide hb1; have HT1 := hide (tabs_later (unhide HT) hb1); clear HR hr1 hb1)
        | (go_at_call_of 34 (Value.string b); refine (unhide HR2 w1 (unhide HT1)).mono ?_; rintro e w2 ⟨v2, rfl, hr2, hb2⟩; have HB2 := hide ((unhide HB1).trans (hb2.mono (unhide HB1).size)); have HC := hide (changes_any v1 v2 _ _ _ _ _ w2 ((unhide HR1).later hb2) hr2 (dF_dist _ _ _ _)); clear HR2 hr2 hb2)
        | (go_at_call 33; refine (unhide HC).mono ?_; rintro e w3 ⟨rfl, hb3⟩))
      go_ret2
      exact ⟨by rw [unhide HV]; rfl, (unhide HB2).trans (hb3.mono (unhide HB2).size)⟩
/-- The document's example: metre and meter. -/
theorem codes_metre : codes ⟨#[109, 101, 116, 114, 101]⟩ = [109, 101, 116, 114, 101] := by decide +kernel
theorem codes_meter : codes ⟨#[109, 101, 116, 101, 114]⟩ = [109, 101, 116, 101, 114] := by decide +kernel
theorem far_metre : farV ⟨#[109, 101, 116, 114, 101]⟩ ⟨#[109, 101, 116, 101, 114]⟩ = .tuple #[.int .i64 1, .int .i64 0] := by
  have h : farN ⟨#[109, 101, 116, 114, 101]⟩ ⟨#[109, 101, 116, 101, 114]⟩ = 1 := by
    unfold farN
    rw [codes_metre, codes_meter]
    decide +kernel
  unfold farV
  rw [h, if_neg (by decide)]
theorem far_fix (w : World) (hT : Lib.Utf8Tabs 0 1 w) : Calls Tryd.prog 17 #[.string ⟨#[109, 101, 116, 114, 101]⟩, .string ⟨#[109, 101, 116, 101, 114]⟩] w fun e w' => e = .returned (.tuple #[.int .i64 1, .int .i64 0]) ∧ Below w.heap.size w w' := by
  have h := far_any ⟨#[109, 101, 116, 114, 101]⟩ ⟨#[109, 101, 116, 101, 114]⟩ w hT
  rw [far_metre] at h
  exact h
end Go.Proofs.YtiooiacebgojiabDoor
