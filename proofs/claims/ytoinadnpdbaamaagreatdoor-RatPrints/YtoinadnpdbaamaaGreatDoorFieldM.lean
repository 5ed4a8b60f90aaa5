/- RatField: what the calls come to. -/
import Derived.Test.YtoinadnpdbaamaaGreatDoorLawNo
namespace Go.Proofs.YtoinadnpdbaamaaGreatDoor
open Go.RowKit

theorem errT_pos {x : Rat} (h : Small x) : errT x = 0 := by unfold errT; rw [if_pos h]
theorem errT_neg {x : Rat} (h : ¬ Small x) : errT x = 7 := by unfold errT; rw [if_neg h]
theorem small_of {x : Rat} (h : errT x = 0) : Small x := by
  apply Classical.byContradiction
  intro hn
  rw [errT_neg hn] at h
  cases h
theorem texts_none {x : Rat} (h : ¬ Small x) : numT x = ⟨#[]⟩ ∧ denT x = ⟨#[]⟩ := by
  unfold numT denT; rw [if_neg h, if_neg h]; exact ⟨rfl, rfl⟩
theorem texts_size (x : Rat) : (numT x).size ≤ 601 ∧ (denT x).size ≤ 600 := by
  by_cases h : Small x
  · exact (numT_of h).size
  · rw [(texts_none h).1, (texts_none h).2]; exact ⟨by decide, by decide⟩
theorem empty_not : ¬ RightT ⟨#[]⟩ ⟨#[]⟩ := by
  rw [right_iff]
  rintro ⟨_, h, _⟩
  exact absurd h (by decide)
theorem right_texts {x : Rat} : RightT (numT x) (denT x) ↔ Small x := by
  constructor
  · intro h
    apply Classical.byContradiction
    intro hn
    rw [(texts_none hn).1, (texts_none hn).2] at h
    exact empty_not h
  · intro h; exact (right_isR _ _).2 ⟨x, numT_of h⟩
/-- A sum of two numbers as they were told. -/
noncomputable def sumN (x y : Rat) : ByteArray := open Classical in if Small x ∧ Small y then numT (x + y) else ⟨#[]⟩
noncomputable def sumD (x y : Rat) : ByteArray := open Classical in if Small x ∧ Small y then denT (x + y) else ⟨#[]⟩
noncomputable def sumE (x y : Rat) : Int := open Classical in if Small x ∧ Small y then errT (x + y) else 3
theorem add_told (x y : Rat) (w : World) (htab : Tab w) : Ans 28 #[.agg #[.string (numT x), .string (denT x)], .agg #[.string (numT y), .string (denT y)]] w (sumN x y) (sumD x y) (sumE x y) := by
  unfold sumN sumD sumE
  by_cases h : Small x ∧ Small y
  · rw [if_pos h, if_pos h, if_pos h]
    exact radd_ok _ _ _ _ x y w (numT_of h.1) (numT_of h.2) htab
  · rw [if_neg h, if_neg h, if_neg h]
    have t1 := texts_size x; have t2 := texts_size y
    exact radd_no _ _ _ _ w (by unfold maxLen; omega) (by unfold maxLen; omega) (by unfold maxLen; omega) (by unfold maxLen; omega) (by rw [right_texts, right_texts]; exact h)
theorem num_zero {x : Rat} (h : Small x) : ((numT x).toList == [48]) = true ↔ x = 0 := by
  have r := (numT_of h).rt
  have e : numT x = sT (decide (x < 0)) x.num.natAbs := r.num
  rw [e]
  by_cases hn : x < 0
  · have hd : decide (x < 0) = true := by simp [hn]
    rw [hd]
    constructor
    · intro h1
      rw [Lib.toList_data, sT_list] at h1
      simp at h1
    · intro h0; subst h0; exact absurd hn (by grind)
  · have hd : decide (x < 0) = false := by simp [hn]
    rw [hd]
    show ((tb x.num.natAbs).toList == [48]) = true ↔ _
    rw [tb_eq48 _ r.hn]
    constructor
    · intro h1
      have h2 : x.num.natAbs = 0 := by simpa using h1
      have h3 : x.num = 0 := by omega
      exact Rat.num_eq_zero.1 h3
    · intro h0; subst h0; rfl
theorem small_neg {x : Rat} (h : Small x) : Small (-x) := by
  obtain ⟨h1, h2⟩ := h
  have e1 : (-x).num = -x.num := rfl
  have e2 : (-x).den = x.den := rfl
  exact ⟨by rw [e1, Int.natAbs_neg]; exact h1, by rw [e2]; exact h2⟩
theorem small_zero : Small 0 := ⟨pow_lt_ten 0 600 (by decide) (by decide), pow_lt_ten 1 600 (by decide) (by decide)⟩
theorem texts_zero : numT 0 = ⟨#[48]⟩ ∧ denT 0 = ⟨#[49]⟩ := by
  have e0 := (lit_tb ⟨#[48]⟩ 0 (by decide) (by decide)).1
  have e1 := (lit_tb ⟨#[49]⟩ 1 (by decide) (by decide)).1
  unfold numT denT
  rw [if_pos small_zero, if_pos small_zero]
  rw [show decide ((0 : Rat) < 0) = false from by simp]
  exact ⟨e0.symm, e1.symm⟩
end Go.Proofs.YtoinadnpdbaamaaGreatDoor
