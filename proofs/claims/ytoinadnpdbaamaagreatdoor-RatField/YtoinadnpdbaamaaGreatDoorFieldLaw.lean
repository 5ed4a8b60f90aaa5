/- RatField whole. -/
import Derived.Test.YtoinadnpdbaamaaGreatDoorField
import Derived.Test.YtoinadnpdbaamaaGreatDoorFieldM
namespace Go.Proofs.YtoinadnpdbaamaaGreatDoor
open Go.RowKit

theorem errT_or (x : Rat) : errT x = 0 ∨ ¬ errT x = 0 := by
  by_cases h : errT x = 0
  · exact Or.inl h
  · exact Or.inr h
theorem field_any (n1 d1 n2 d2 n3 d3 : ByteArray) (w : World) (htab : Tab w) (x y z : Rat) (hx : IsR n1 d1 x) (hy : IsR n2 d2 y) (hz : IsR n3 d3 z) :
    Calls Tryz.prog 11 #[.agg #[.string n1, .string d1], .agg #[.string n2, .string d2], .agg #[.string n3, .string d3]] w fun r w' => r = .returned (.bool true) ∧ Below w.heap.size w w' := by
  obtain ⟨sx, rfl, rfl⟩ := hx
  obtain ⟨sy, rfl, rfl⟩ := hy
  obtain ⟨sz, rfl, rfl⟩ := hz
  have ix := numT_of sx; have iy := numT_of sy; have iz := numT_of sz
  have big : ∀ q : Rat, Small q → RB (numT q) (denT q) true := fun q hq => rb_yes (by have := (texts_size q).1; unfold maxLen; omega) (by have := (texts_size q).2; unfold maxLen; omega) (right_texts.2 hq)
  have T := fun W (hb : Below w.heap.size w W) => htab.later hb
  have E2 : y + x = x + y := Rat.add_comm y x
  have E4 : y * x = x * y := Rat.mul_comm y x
  have E5 : x + y + -y = x := by grind
  have E9 : (x + y) * z = x * z + y * z := by grind
  have E12 : x + y + z = x + (y + z) := by grind
  have E15 : x + -x = 0 := by grind
  refine field_walk (numT x) (denT x) (numT y) (denT y) (numT z) (denT z) (numT (x + y)) (denT (x + y)) (numT (x * y)) (denT (x * y)) (numT ((x + y) * z)) (denT ((x + y) * z)) (numT (x * z)) (denT (x * z)) (numT (y * z)) (denT (y * z))
    (sumN (x * z) (y * z)) (sumD (x * z) (y * z)) (numT (x + y + z)) (denT (x + y + z)) (numT (y + z)) (denT (y + z)) (sumN x (y + z)) (sumD x (y + z)) (numT (-x)) (denT (-x))
    (errT (x + y)) (errT (x * y)) (errT ((x + y) * z)) (errT (x * z)) (errT (y * z)) (sumE (x * z) (y * z)) (errT (x + y + z)) (errT (y + z)) (sumE x (y + z)) w (big x sx) (big y sy) (big z sz)
    ?_ ?_ ?_ ?_ ?_ ?_ ?_ ?_ ?_ ?_ ?_ ?_ ?_ ?_ ?_ (errT_or _) ?_ ?_ (fun W hb => awake_any W (T W hb))
  · exact fun W hb => radd_ok _ _ _ _ x y W ix iy (T W hb)
  · exact fun W hb => by have := radd_ok _ _ _ _ y x W iy ix (T W hb); rwa [E2] at this
  · exact fun W hb => rmul_ok _ _ _ _ x y W ix iy (T W hb)
  · exact fun W hb => by have := rmul_ok _ _ _ _ y x W iy ix (T W hb); rwa [E4] at this
  · intro he W hb
    have := rsub_ok _ _ _ _ (x + y) y W (numT_of (small_of he)) iy (T W hb)
    rwa [E5, errT_pos sx] at this
  · intro he W hb
    exact rmul_ok _ _ _ _ (x + y) z W (numT_of (small_of he)) iz (T W hb)
  · exact fun W hb => rmul_ok _ _ _ _ x z W ix iz (T W hb)
  · exact fun W hb => rmul_ok _ _ _ _ y z W iy iz (T W hb)
  · exact fun W hb => add_told (x * z) (y * z) W (T W hb)
  · intro he W hb
    exact radd_ok _ _ _ _ (x + y) z W (numT_of (small_of he)) iz (T W hb)
  · exact fun W hb => radd_ok _ _ _ _ y z W iy iz (T W hb)
  · exact fun W hb => add_told x (y + z) W (T W hb)
  · intro he h0 W hb
    have hy0 : y ≠ 0 := fun h => by have := (num_zero sy).2 h; rw [h0] at this; cases this
    have := rquo_ok _ _ _ _ (x * y) y W (numT_of (small_of he)) iy hy0 (T W hb)
    have E13 : x * y * y⁻¹ = x := by rw [Rat.mul_assoc, Rat.mul_inv_cancel y hy0, Rat.mul_one]
    rwa [E13, errT_pos sx] at this
  · intro W hb
    have := rneg_ok _ _ x W ix (T W hb)
    rwa [errT_pos (small_neg sx)] at this
  · intro W hb
    have := radd_ok _ _ _ _ x (-x) W ix (numT_of (small_neg sx)) (T W hb)
    rwa [E15, errT_pos small_zero, texts_zero.1, texts_zero.2] at this
  · intro h1 h2
    have hs : Small (x * z) ∧ Small (y * z) := ⟨small_of h1, small_of h2⟩
    unfold sumN sumD sumE
    rw [if_pos hs, if_pos hs, if_pos hs, E9]
    by_cases h : errT (x * z + y * z) = 0
    · exact Or.inr (Or.inr ⟨h, h, rfl, rfl⟩)
    · exact Or.inl h
  · intro h1
    have hs : Small x ∧ Small (y + z) := ⟨sx, small_of h1⟩
    unfold sumN sumD sumE
    rw [if_pos hs, if_pos hs, if_pos hs, E12]
    by_cases h : errT (x + (y + z)) = 0
    · exact Or.inr (Or.inr ⟨h, h, rfl, rfl⟩)
    · exact Or.inl h
theorem law_field (n1 d1 n2 d2 n3 d3 : ByteArray) (w : World) (htab : Tab w) (s1 : n1.size ≤ maxLen) (s2 : d1.size ≤ maxLen) (s3 : n2.size ≤ maxLen) (s4 : d2.size ≤ maxLen) (s5 : n3.size ≤ maxLen) (s6 : d3.size ≤ maxLen) :
    Calls Tryz.prog 11 #[.agg #[.string n1, .string d1], .agg #[.string n2, .string d2], .agg #[.string n3, .string d3]] w fun r w' => r = .returned (.bool true) ∧ Below w.heap.size w w' := by
  have rb : ∀ {n d : ByteArray}, n.size ≤ maxLen → d.size ≤ maxLen → ∃ ok : Bool, RB n d ok ∧ (ok = true → RightT n d) := fun {n d} a b => by
    by_cases h : RightT n d
    · exact ⟨true, rb_yes a b h, fun _ => h⟩
    · exact ⟨false, rb_no a b h, fun h => by cases h⟩
  obtain ⟨o1, r1, h1⟩ := rb s1 s2
  obtain ⟨o2, r2, h2⟩ := rb s3 s4
  obtain ⟨o3, r3, h3⟩ := rb s5 s6
  by_cases h : (o1 && o2 && o3) = true
  · have hh : o1 = true ∧ o2 = true ∧ o3 = true := by simp at h; exact ⟨h.1.1, h.1.2, h.2⟩
    obtain ⟨x, hx⟩ := (right_isR _ _).1 (h1 hh.1)
    obtain ⟨y, hy⟩ := (right_isR _ _).1 (h2 hh.2.1)
    obtain ⟨z, hz⟩ := (right_isR _ _).1 (h3 hh.2.2)
    exact field_any n1 d1 n2 d2 n3 d3 w htab x y z hx hy hz
  · exact no11 n1 d1 n2 d2 n3 d3 o1 o2 o3 w htab r1 r2 r3 (by simpa using h)
end Go.Proofs.YtoinadnpdbaamaaGreatDoor
