/- Parse of what Print tells; kinds there and back. -/
import Derived.Test.YtccnbnfafhpeaaaDoorBackMath
import Derived.Test.YtccnbnfafhpeaaaDoorKnown
namespace Go.Proofs.YtccnbnfafhpeaaaDoor
open Go.RowKit

theorem small_byte (n : Nat) (h : n < 128) : (UInt8.ofNat n).toNat < 128 := by rw [byte_of n (by omega)]; exact h
theorem digits_ascii (n : Nat) (h : n < 100) : ∀ b ∈ Lib.decDigits n, b.toNat < 128 := by
  rw [digits_small n h]
  intro b hb
  split at hb
  · simp only [List.mem_cons, List.not_mem_nil, or_false] at hb; subst hb; exact small_byte _ (by omega)
  · simp only [List.mem_cons, List.not_mem_nil, or_false] at hb
    rcases hb with rfl | rfl <;> exact small_byte _ (by omega)
theorem term_ascii (k : Nat) (hk : k < 8) (x : Int) (hx : -99 ≤ x ∧ x ≤ 99) : ∀ b ∈ termText (lettersL.getD k 0) x, b.toNat < 128 := by
  obtain ⟨_, h1, h2⟩ := begin_at k hk
  intro b hb
  unfold termText at hb
  split at hb
  · simp only [List.mem_cons, List.not_mem_nil, or_false] at hb; subst hb; exact small_byte _ (by omega)
  · rcases List.mem_cons.1 hb with rfl | hb
    · exact small_byte _ (by omega)
    · rcases List.mem_cons.1 hb with rfl | hb
      · decide
      · by_cases hn : x < 0
        · rw [itoa_neg x hn] at hb
          rcases List.mem_cons.1 hb with rfl | hb
          · decide
          · exact digits_ascii _ (by omega) b hb
        · rw [itoa_pos x (by omega)] at hb
          exact digits_ascii _ (by omega) b hb
theorem join_ascii : ∀ (ss : List (List UInt8)), (∀ s ∈ ss, ∀ b ∈ s, b.toNat < 128) → ∀ b ∈ Lib.join ss [32], b.toNat < 128
  | [], _, b, hb => by rw [Lib.join_nil] at hb; cases hb
  | [x], h, b, hb => by rw [Lib.join_one] at hb; exact h x (by simp) b hb
  | x :: y :: r, h, b, hb => by
    rw [join_cons2] at hb
    rcases List.mem_append.1 hb with hb | hb
    · exact h x (by simp) b hb
    · rcases List.mem_cons.1 hb with rfl | hb
      · decide
      · exact join_ascii (y :: r) (fun s hs => h s (by simp [hs])) b hb
theorem join_head (x : List UInt8) (c : UInt8) (cs : List UInt8) (hx : x = c :: cs) (r : List (List UInt8)) : ∃ t, Lib.join (x :: r) [32] = c :: t := by
  subst hx
  cases r with
  | nil => exact ⟨cs, Lib.join_one _ _⟩
  | cons y r => exact ⟨_, by rw [join_cons2]; rfl⟩
theorem term_head (r : Nat) (x : Int) : ∃ cs, termText r x = UInt8.ofNat r :: cs := by
  unfold termText
  split
  · exact ⟨_, rfl⟩
  · exact ⟨_, rfl⟩
/-- What Print tells, Parse reads. -/
theorem parse_text (l : List Int) (hl : l.length = 8) (hr : rightB l = true) (w : World) : Calls Tryd.prog 24 #[.string ⟨(dimText l).toArray⟩] w fun e w' => e = .returned (.tuple #[.agg (cells8 l), .int .i64 0, .int .i64 0]) ∧ Below w.heap.size w w' := by
  have hap := apply_items l hl 8 (Nat.le_refl _)
  have happ : applyAll [0, 0, 0, 0, 0, 0, 0, 0] (itemsTo l 8) = l := by rw [hap, List.take_of_length_le (by omega)]; simp
  obtain ⟨ho1, ho2⟩ := items_ok l hl hr 8 (Nat.le_refl _)
  by_cases he : itemsTo l 8 = []
  · have hl0 : l = [0, 0, 0, 0, 0, 0, 0, 0] := by rw [← happ, he]; rfl
    have ht : termsTo l 8 = [] := by rw [terms_items, he]; rfl
    have hd : dimText l = [49] := by unfold dimText; rw [if_pos ht]
    rw [hd, hl0]
    exact parse_one w
  · have ht : termsTo l 8 ≠ [] := by rw [terms_items]; simpa using he
    have hd : dimText l = Lib.join ((itemsTo l 8).map fun i => termText (lettersL.getD i.1 0) i.2) [32] := by unfold dimText; rw [if_neg ht, terms_items]
    have hlen8 : (itemsTo l 8).length ≤ 8 := by have := termsTo_len l 8; rw [terms_items, List.length_map] at this; exact this
    obtain ⟨sE, h1, h2⟩ := items_steps (itemsTo l 8) [0, 0, 0, 0, 0, 0, 0, 0] 0 he (by decide) ⟨fun i hi => by
      obtain ⟨a, b, c, d⟩ := ho1 i hi
      refine ⟨a, b, c, d, ?_⟩
      rcases eight (Nat.le_of_lt a) with e | e | e | e | e | e | e | e | e <;> first | (rw [e]; rfl) | omega, ho2⟩ (by omega)
    rw [happ] at h2
    rw [hd]
    have hasc : ∀ b ∈ Lib.join ((itemsTo l 8).map fun i => termText (lettersL.getD i.1 0) i.2) [32], b.toNat < 128 := join_ascii _ (fun s hs => by
      obtain ⟨i, hi, rfl⟩ := List.mem_map.1 hs
      obtain ⟨a, b, c, _⟩ := ho1 i hi
      exact term_ascii i.1 a i.2 ⟨b, c⟩)
    have hpre : Lib.hasPrefix (Lib.join ((itemsTo l 8).map fun i => termText (lettersL.getD i.1 0) i.2) [32]) [49] = false := by
      cases hit : itemsTo l 8 with
      | nil => exact absurd hit he
      | cons i it =>
        obtain ⟨a, _, _, _⟩ := ho1 i (by rw [hit]; simp)
        obtain ⟨cs, hcs⟩ := term_head (lettersL.getD i.1 0) i.2
        obtain ⟨t, htt⟩ := join_head _ _ cs hcs (it.map fun i => termText (lettersL.getD i.1 0) i.2)
        rw [List.map_cons, htt]
        obtain ⟨_, h66, h84⟩ := begin_at i.1 a
        have hne : (49 : UInt8) ≠ UInt8.ofNat (lettersL.getD i.1 0) := fun e => by
          have := congrArg UInt8.toNat e
          rw [byte_of _ (by omega)] at this
          have h49 : (49 : UInt8).toNat = 49 := rfl
          omega
        generalize UInt8.ofNat (lettersL.getD i.1 0) = u at hne ⊢
        simp [Lib.hasPrefix, List.isPrefixOf, hne]
    generalize Lib.join ((itemsTo l 8).map fun i => termText (lettersL.getD i.1 0) i.2) [32] = T at *
    exact parse_ok ⟨T.toArray⟩ sE (ready l) w hpre (fun k hk => hasc _ (by
      show T.toArray[k]'_ ∈ T
      simp)) h1 (h2 _) hl
/-- Kinds there and back. -/
theorem kind_back : ∀ x ∈ kindTab, kindNamed x.1 = some x ∧ kindOf x.2 = some x := by decide +kernel
theorem none_named : kindNamed [] = none := by decide +kernel
theorem of_kind {l : List Int} {x : List UInt8 × List Int} (h : kindOf l = some x) : x.2 = l ∧ kindNamed x.1 = some x := by
  have h1 := List.find?_some h
  have h2 : x.2 = l := by simpa [eqB] using h1
  exact ⟨h2, (kind_back x (List.mem_of_find?_eq_some h)).1⟩
theorem kind_of {s : List UInt8} {x : List UInt8 × List Int} (h : kindNamed s = some x) : x.1 = s ∧ kindOf x.2 = some x := by
  have h1 := List.find?_some h
  have h2 : x.1 = s := by simpa using h1
  exact ⟨h2, (kind_back x (List.mem_of_find?_eq_some h)).2⟩
end Go.Proofs.YtccnbnfafhpeaaaDoor
