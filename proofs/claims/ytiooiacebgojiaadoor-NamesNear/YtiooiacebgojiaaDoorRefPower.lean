/- The document's Power at every text and place. -/
import Derived.Test.YtiooiacebgojiaaDoorPowerAt
import Derived.Test.YtiooiacebgojiaaDoorFigure
import Derived.Test.YtiooiacebgojiaaDoorRefRunes
import Derived.Laws.OwnMore
import Derived.BigRegion
import Derived.Deep.Cut
import Derived.Deep.CutRange
namespace Go.Proofs.YtiooiacebgojiaaDoor
open Go.RowKit

theorem runeRow_get (s : ByteArray) : ∀ (L : List Nat) (i k : Nat) (hi : i < L.length), k < 5 → (runeRow s L)[i * 5 + k]? = (cells5 s L[i])[k]?
  | [], i, _, hi, _ => absurd hi (by simp)
  | x :: L, 0, k, _, hk => by
    have e : runeRow s (x :: L) = cells5 s x ++ runeRow s L := by simp [runeRow]
    rw [e, List.getElem?_append_left (by simp [cells5]; omega)]
    simp
  | x :: L, i + 1, k, hi, hk => by
    have e : runeRow s (x :: L) = cells5 s x ++ runeRow s L := by simp [runeRow]
    have hl : (cells5 s x).length = 5 := rfl
    rw [e, List.getElem?_append_right (by omega), hl, show (i + 1) * 5 + k - 5 = i * 5 + k by omega, runeRow_get s L i k (by simpa using hi) hk]
    rfl
theorem Pw.det {s : ByteArray} {p a z : Nat} {b : Bool} {a1 z1 : Nat} {b1 : Bool} (h1 : Pw s p a z b a1 z1 b1) : ∀ {a2 z2 : Nat} {b2 : Bool}, Pw s p a z b a2 z2 b2 → a1 = a2 ∧ z1 = z2 ∧ b1 = b2 := by
  induction h1 with
  | done p a z b hn =>
    intro a2 z2 b2 h2
    cases h2 with
    | done _ _ _ _ _ => exact ⟨rfl, rfl, rfl⟩
    | sign _ _ _ _ _ _ _ hp => exact absurd hp hn
    | stop _ _ _ _ hp => exact absurd hp hn
    | step _ _ _ _ _ _ _ hp => exact absurd hp hn
  | sign p a z b a' z' b' hp h0 hs _ ih =>
    intro a2 z2 b2 h2
    cases h2 with
    | done _ _ _ _ hn => exact absurd hp hn
    | sign _ _ _ _ _ _ _ _ _ _ h => exact ih h
    | stop _ _ _ _ _ hns => exact absurd ⟨h0, hs⟩ hns
    | step _ _ _ _ _ _ _ _ hns => exact absurd ⟨h0, hs⟩ hns
  | stop p a z b hp hns hf =>
    intro a2 z2 b2 h2
    cases h2 with
    | done _ _ _ _ hn => exact absurd hp hn
    | sign _ _ _ _ _ _ _ _ h0 hs => exact absurd ⟨h0, hs⟩ hns
    | stop _ _ _ _ _ _ _ => exact ⟨rfl, rfl, rfl⟩
    | step _ _ _ _ _ _ _ _ _ hf' => exact absurd hf' hf
  | step p a z b a' z' b' hp hns hf _ ih =>
    intro a2 z2 b2 h2
    cases h2 with
    | done _ _ _ _ hn => exact absurd hp hn
    | sign _ _ _ _ _ _ _ _ h0 hs => exact absurd ⟨h0, hs⟩ hns
    | stop _ _ _ _ _ _ hf' => exact absurd hf hf'
    | step _ _ _ _ _ _ _ _ _ _ h => exact ih h
theorem refPower_out (s : ByteArray) (a : Int) (h : a < 0 ∨ (s.size : Int) < a) (w : World) : Calls Tryd.prog 19 #[.string s, .int .i64 a] w fun e w' => e = .returned (.tuple #[.int .i64 0, .int .i64 0, .int .i64 1]) ∧ w' = w := by
  by_cases h0 : a < 0
  · go_enter Tryd.func19, Tryd.ntmps19
    go_wp2
    exact bodyPost_ret (res3t Tryd.results19 _ _) rfl ⟨rfl, rfl⟩
  · have h1 : (s.size : Int) < a := by omega
    clear h
    go_enter Tryd.func19, Tryd.ntmps19
    go_wp2
    exact bodyPost_ret (res3t Tryd.results19 _ _) rfl ⟨rfl, rfl⟩
/-- Place i of the list, or the text's end. -/
theorem places_cons {s : ByteArray} {i p : Nat} (h : (places s 0).drop i = places s p) (hp : p < s.size) : ∃ hi : i < (places s 0).length, (places s 0)[i] = p ∧ (places s 0).drop (i + 1) = places s (p + (Utf8.decode s p).2) := by
  rw [places_step s p hp] at h
  have hi : i < (places s 0).length := by
    apply Decidable.byContradiction
    intro hn
    rw [List.drop_eq_nil_of_le (by omega)] at h
    exact absurd h (by simp)
  rw [List.drop_eq_getElem_cons hi] at h
  injection h with h1 h2
  exact ⟨hi, h1, h2⟩
theorem places_nil {s : ByteArray} {i p : Nat} (h : (places s 0).drop i = places s p) (hp : ¬ p < s.size) : (places s 0).length ≤ i := by
  rw [places_end s p hp] at h
  exact List.drop_eq_nil_iff.1 h
end Go.Proofs.YtiooiacebgojiaaDoor
