/- The runes of a text, laid in memory, as the document's answer has them. -/
import Derived.Test.YtiooiacebgojiabDoorRefRunes
import Derived.Laws.OwnMore
import Derived.BigRegion
import Derived.Deep.Cut
import Derived.Deep.CutRange
import Derived.Deep.MidRow
import Derived.BigQuiet
namespace Go.Proofs.YtiooiacebgojiabDoor
open Go.RowKit

theorem runeRow_get (s : ByteArray) : ∀ (L : List Nat) (i k : Nat) (hi : i < L.length), k < 5 → (runeRow s L)[i * 5 + k]? = (cells5 s L[i])[k]?
  | [], i, _, hi, _ => absurd hi (by simp)
  | x :: L, 0, k, _, hk => by
    have e : runeRow s (x :: L) = cells5 s x ++ runeRow s L := by simp [runeRow]
    rw [e, List.getElem?_append_left (by simp [cells5]; omega)]
    simp
  | x :: L, i + 1, k, hi, hk => by
    have e : runeRow s (x :: L) = cells5 s x ++ runeRow s L := by simp [runeRow]
    have hl : (cells5 s x).length = 5 := rfl
    rw [e, List.getElem?_append_right (by omega), hl, show (i + 1) * 5 + k - 5 = i * 5 + k by omega, runeRow_get s L i k (by simpa using hi) hk]
    rfl
theorem und52b : (Tryd.prog.underlying 67).map TypeDesc.isRow = some true := by kernel_rfl
theorem und52 : ∃ d : TypeDesc, Tryd.prog.underlying 67 = some d ∧ d.isRow = true := by
  have h := und52b
  cases hu : Tryd.prog.underlying 67 with
  | none => rw [hu] at h; cases h
  | some d => rw [hu] at h; exact ⟨d, rfl, Option.some.inj h⟩
theorem size52 : (Tryd.prog.info? 67).map (·.size) = some 5 := by kernel_rfl
/-- The runes of a text, laid in memory, as the document's answer has them. -/
def RunesIn (w : World) (g : Nat) (s : ByteArray) : Prop := g < w.heap.size ∧ ∀ i p, (places s 0)[i]? = some p → w.rangeAt g (i * 5) (cells5 s p)
theorem runes_shape {w : World} {B : Nat} {v : Value} {s : ByteArray} (h : w.ownsRow B 67 5 v (places s 0).length (runeRow s (places s 0))) : (s.size = 0 ∧ ∃ a c, v = .slice a 0 c) ∨ (0 < s.size ∧ ∃ g cap, v = .slice (some ⟨g, 0, none⟩) (places s 0).length cap ∧ RunesIn w g s) := by
  have h0 := h
  rcases h.2 with ⟨rfl, hn⟩ | ⟨g, cap, cur, rfl, _, hg, _⟩
  · refine .inl ⟨?_, none, 0, rfl⟩
    apply Decidable.byContradiction
    intro hs
    rw [places_step s 0 (by omega)] at hn
    simp at hn
  · by_cases hs : s.size = 0
    · refine .inl ⟨hs, some ⟨g, 0, none⟩, cap, ?_⟩
      rw [places_end s 0 (by omega)]
      rfl
    · refine .inr ⟨by omega, g, cap, rfl, (Array.getElem?_eq_some_iff.1 hg).1, ?_⟩
      intro i p hi j u hj
      obtain ⟨hil, hip⟩ := List.getElem?_eq_some_iff.1 hi
      have hj5 : j < 5 := (List.getElem?_eq_some_iff.1 hj).1
      rw [h0.cellAt (i * 5 + j) (by omega), runeRow_get s _ i j hil hj5, hip]
      exact hj
theorem RunesIn.later {w w' : World} {g : Nat} {s : ByteArray} (h : RunesIn w g s) (hb : Below w.heap.size w w') : RunesIn w' g s := by
  refine ⟨Nat.lt_of_lt_of_le h.1 hb.size, fun i p hi j u hj => ?_⟩
  rw [hb.cell (p := ⟨g, i * 5 + j, none⟩) h.1]
  exact h.2 i p hi j u hj
theorem RunesIn.load {w : World} {g : Nat} {s : ByteArray} (h : RunesIn w g s) (i p : Nat) (hi : (places s 0)[i]? = some p) : (Instr.loadAt 67 (.pointer (some ⟨g, i * 5, none⟩))).run Tryd.prog w = .ok (.agg (cells5 s p).toArray) w := by
  obtain ⟨d, hu, hd⟩ := und52
  exact run_loadAt_mid w g (i * 5) 67 (cells5 s p) d (h.2 i p hi) hu hd size52
/-- What stands at rune i of the list, in five cells. -/
def Five (w : World) (g i : Nat) (r f : Int) (b : Bool) (p n : Int) : Prop := w.cell? ⟨g, i * 5, none⟩ = some (.int .i32 r) ∧ w.cell? ⟨g, i * 5 + 1, none⟩ = some (.int .i32 f) ∧ w.cell? ⟨g, i * 5 + 2, none⟩ = some (.bool b) ∧ w.cell? ⟨g, i * 5 + 3, none⟩ = some (.int .i64 p) ∧ w.cell? ⟨g, i * 5 + 4, none⟩ = some (.int .i64 n)
theorem RunesIn.five {w : World} {g : Nat} {s : ByteArray} (h : RunesIn w g s) {i p : Nat} (hi : (places s 0)[i]? = some p) : Five w g i ((Utf8.decode s p).1 : Nat) (foldR ((Utf8.decode s p).1 : Nat)) (brokenAt s p) p ((Utf8.decode s p).2 : Nat) :=
  ⟨h.2 i p hi 0 _ rfl, h.2 i p hi 1 _ rfl, h.2 i p hi 2 _ rfl, h.2 i p hi 3 _ rfl, h.2 i p hi 4 _ rfl⟩
theorem places_cons {s : ByteArray} {i p : Nat} (h : (places s 0).drop i = places s p) (hp : p < s.size) : ∃ hi : i < (places s 0).length, (places s 0)[i] = p ∧ (places s 0).drop (i + 1) = places s (p + (Utf8.decode s p).2) := by
  rw [places_step s p hp] at h
  have hi : i < (places s 0).length := by
    apply Decidable.byContradiction
    intro hn
    rw [List.drop_eq_nil_of_le (by omega)] at h
    exact absurd h (by simp)
  rw [List.drop_eq_getElem_cons hi] at h
  injection h with h1 h2
  exact ⟨hi, h1, h2⟩
theorem places_nil {s : ByteArray} {i p : Nat} (h : (places s 0).drop i = places s p) (hp : ¬ p < s.size) : (places s 0).length ≤ i := by
  rw [places_end s p hp] at h
  exact List.drop_eq_nil_iff.1 h
end Go.Proofs.YtiooiacebgojiabDoor
