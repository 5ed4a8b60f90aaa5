/- TempsSteps: differences are steps, and what is warmer on one scale is on every one. -/
import Derived.Test.YtimihoonnglniaaGreatDoorStepsA
import Derived.Test.YtimihoonnglniaaGreatDoorStepsB
import Derived.Test.YtimihoonnglniaaGreatDoorAwake
import Derived.Deep.RegionHeld3
import Derived.Deep.Cut
import Derived.Test.YtimihoonnglniaaGreatDoorBoxes
import Derived.Test.YtimihoonnglniaaGreatDoorOfsR
namespace Go.Proofs.YtimihoonnglniaaGreatDoor
open Go.RowKit
theorem bd_add {d : Nat} {x y : Rat} (hx : Bd d x) (hy : Bd d y) : Bd (d + d + 1) (x + y) := by
  have px := x.den_pos
  have py := y.den_pos
  have lx := Cub.low_of x
  have ly := Cub.low_of y
  have bX := pow_two d _ _ hx.1 hy.2
  have bY := pow_two d _ _ hy.1 hx.2
  have e := Cub.refAdd_val lx.1 ly.1 (bb := (Cub.addSg (decide (x < 0)) (x.num.natAbs * y.den) (decide (y < 0)) (y.num.natAbs * x.den)).1) (m := (Cub.addSg (decide (x < 0)) (x.num.natAbs * y.den) (decide (y < 0)) (y.num.natAbs * x.den)).2) rfl
  rw [lx.2, ly.2] at e
  rw [← e]
  refine bd_val _ (Nat.mul_pos px py) ?_ (pow_up (pow_two d _ _ hx.2 hy.2) (by omega))
  have hs := pow_sum (d + d) _ _ bX bY
  refine Nat.lt_of_le_of_lt ?_ hs
  unfold Cub.addSg
  split
  · exact Nat.le_refl _
  · split
    · show _ - _ ≤ _
      omega
    · show _ - _ ≤ _
      omega
theorem IsR.bd {num den : ByteArray} {x : Rat} (h : IsR num den x) : Bd 600 x := h.1
theorem ref11_yes {num den : ByteArray} {x : Rat} (h : IsR num den x) (W : World) : Calls Tryz.prog 11 #[.agg #[.string num, .string den]] W fun r w' => r = .returned (.bool true) ∧ Below W.heap.size W w' := by
  have hz := h.size
  obtain ⟨ok, h1, h2⟩ := refR_any num den W (by unfold maxLen; omega) (by unfold maxLen; omega)
  rw [h1.2 ((right_isR num den).2 ⟨x, h⟩)] at h2
  exact h2
theorem isR_told {z : Rat} (h : errT z = 0) : IsR (numT z) (denT z) z := by
  refine ⟨?_, rfl, rfl⟩
  unfold errT at h
  by_cases hs : Small z
  · exact hs
  · rw [if_neg hs] at h
    exact absurd h (by decide)
theorem errT_07 (z : Rat) : errT z = 0 ∨ errT z = 7 := by
  unfold errT
  by_cases hs : Small z
  · rw [if_pos hs]; exact Or.inl rfl
  · rw [if_neg hs]; exact Or.inr rfl
theorem to_all (n d s t : ByteArray) (x : Rat) (i j : Nat) (w : World) (hx : IsR n d x) (hi : IsFirst (scB s) (i : Int)) (hj : IsFirst (scB t) (j : Int)) (htab : Tab w) :
    ∃ (pn pd : ByteArray) (e : Int), (∀ W, Below w.heap.size w W → Calls Tryz.prog 6 #[.agg #[.string n, .string d], .string s, .string t] W fun r w' => r = .returned (.tuple #[.agg #[.string pn, .string pd], .int .i64 e]) ∧ Below W.heap.size W w') ∧
      (e = 0 → IsR pn pd ((x * fq i + oq i + -oq j) * (fq j)⁻¹)) := by
  by_cases hk : x * fq i + oq i < 0
  · exact ⟨_, _, _, fun W hW => to_below n d _ _ x _ _ W hx hi hj hk (htab.later hW), fun h => absurd h (by decide)⟩
  · exact ⟨_, _, _, fun W hW => to_tell n d _ _ x _ _ W hx hi hj hk (htab.later hW), fun h => isR_told h⟩
theorem fq_pos : ∀ j, 0 < fq j
  | 0 => by decide +kernel
  | 1 => by decide +kernel
  | 2 => by decide +kernel
  | n + 3 => by show (0 : Rat) < 1; decide +kernel
theorem diff_step (x y f o u g : Rat) : (x * f + o + -u) * g + -((y * f + o + -u) * g) = (x + -y) * f * g := by grind
theorem cmp_scaled (a b z c : Rat) (hc : 0 < c) (h : a + -b = z * c) : Cub.cmpQ a b = Cub.cmpQ z 0 := by
  have h1 : a < b ↔ z < 0 := by
    constructor
    · intro hl
      by_cases hz : z < 0
      · exact hz
      · have : 0 ≤ z * c := Rat.mul_nonneg (by grind) (by grind)
        grind
    · intro hz
      have : 0 < (-z) * c := Rat.mul_pos (by grind) hc
      grind
  have h2 : b < a ↔ 0 < z := by
    constructor
    · intro hl
      by_cases hz : 0 < z
      · exact hz
      · have : 0 ≤ (-z) * c := Rat.mul_nonneg (by grind) (by grind)
        grind
    · intro hz
      have : 0 < z * c := Rat.mul_pos hz hc
      grind
  unfold Cub.cmpQ
  simp only [h1, h2]
theorem cmp_refl (z : Rat) : Cub.cmpQ z z = 0 := by unfold Cub.cmpQ; grind
theorem ten_pos (e : Nat) : 0 < 10 ^ e := Nat.pow_pos (by decide)
theorem fx_zero : (Value.agg #[.bool false, .string (tb 0), .string ⟨#[49]⟩]) = fx 0 := by
  unfold fx
  rw [show (0 : Rat).num.natAbs = 0 from rfl, show (0 : Rat).den = 1 from rfl, tx_one, tx_tb 0 (ten_pos 600)]
  rfl
theorem bd_zero (d : Nat) (hd : 1 ≤ d) : Bd d 0 := ⟨by show 0 < 10 ^ d; exact Nat.pow_pos (by decide), by show 1 < 10 ^ d; exact one_lt_ten d hd⟩
theorem law_steps (n d m k : ByteArray) (a b : Int) (w : World) (htab : Tab w) (s1 : n.size ≤ maxLen) (s2 : d.size ≤ maxLen) (s3 : m.size ≤ maxLen) (s4 : k.size ≤ maxLen) :
    Calls Tryz.prog 5 #[.agg #[.string n, .string d], .agg #[.string m, .string k], .int .i64 a, .int .i64 b] w fun r w' => r = .returned (.bool true) ∧ Below w.heap.size w w' := by
  have haw : ∀ W, Below w.heap.size w W → Calls Tryz.prog 10 #[] W fun r w' => r = .returned (.bool true) ∧ Below W.heap.size W w' := fun W hb => awake_any W (htab.later hb)
  by_cases h : RightT n d
  · obtain ⟨x, hx⟩ := (right_isR _ _).1 h
    by_cases h' : RightT m k
    · obtain ⟨y, hy⟩ := (right_isR _ _).1 h'
      have ha := wds_first (oneK a) (oneK_lt a); have hb := wds_first (oneK b) (oneK_lt b)
      obtain ⟨pn, pd, ee, ht1, hp⟩ := to_all n d _ _ x _ _ w hx ha hb htab
      obtain ⟨qn, qd, ff, ht2, hq⟩ := to_all m k _ _ y _ _ w hy ha hb htab
      have hr1 := fun W (_ : Below w.heap.size w W) => ref11_yes hx W
      have hr2 := fun W (_ : Below w.heap.size w W) => ref11_yes hy W
      by_cases he : ee = 0
      · by_cases hf : ff = 0
        · subst he; subst hf
          have hp := hp rfl; have hq := hq rfl
          have hbd : Bd (600 + 600 + 1) (x + -y) := bd_add hx.bd (bd_neg hy.bd)
          have hdiff := diff_step x y (fq (wix (oneK a))) (oq (wix (oneK a))) (oq (wix (oneK b))) (fq (wix (oneK b)))⁻¹
          have hpos : 0 < fq (wix (oneK a)) * (fq (wix (oneK b)))⁻¹ := Rat.mul_pos (fq_pos _) (Rat.inv_pos.2 (fq_pos _))
          have hst : errT (x + -y) = 0 → ∀ W, Below w.heap.size w W → Calls Tryz.prog 8 #[.agg #[.string (numT (x + -y)), .string (denT (x + -y))], .string (wds (oneK a)), .string (wds (oneK b))] W fun r w' => r = .returned (.tuple #[.agg #[.string (numT ((x + -y) * fq (wix (oneK a)) * (fq (wix (oneK b)))⁻¹)), .string (denT ((x + -y) * fq (wix (oneK a)) * (fq (wix (oneK b)))⁻¹))], .int .i64 (errT ((x + -y) * fq (wix (oneK a)) * (fq (wix (oneK b)))⁻¹))]) ∧ Below W.heap.size W w' := fun h0 W hW => step_ok _ _ _ _ (x + -y) _ _ W (isR_told h0) ha hb (htab.later hW)
          rw [← hdiff] at hst
          have hcmp := cmp_scaled _ _ (x + -y) _ hpos (by rw [hdiff, Rat.mul_assoc])
          generalize (x * fq (wix (oneK a)) + oq (wix (oneK a)) + -oq (wix (oneK b))) * (fq (wix (oneK b)))⁻¹ = P at *
          generalize (y * fq (wix (oneK a)) + oq (wix (oneK a)) + -oq (wix (oneK b))) * (fq (wix (oneK b)))⁻¹ = Q at *
          refine steps_ok n d m k pn pd qn qd (tx (x + -y).num.natAbs) (tx (x + -y).den) (numT (x + -y)) (denT (x + -y)) (numT (P + -Q)) (denT (P + -Q)) (wds (oneK a)) (wds (oneK b)) (decide (x + -y < 0)) (fx x) (fx y) (fx (-y)) (fx P) (fx Q) (fx (-Q)) (fx (P + -Q)) (fx (P + -Q)) (fx 0) a b (Cub.cmpQ P Q) (errT (x + -y)) (errT (P + -Q)) w hr1 hr2 (fun W _ => one_any a W) (fun W _ => one_any b W) ht1 ht2 haw
            (fun W _ => ref11_yes hp W) (fun W _ => ref11_yes hq W) (fun W _ => refRead n d x W hx) (fun W _ => refRead m k y W hy) (fun W _ => refFMinus y W) (fun W _ => refFPlus 600 x (-y) W (by omega) (by omega) hx.bd (bd_neg hy.bd))
            (fun W _ => refRead pn pd P W hp) (fun W _ => refRead qn qd Q W hq) (fun W _ => refCompare 600 P Q W (by omega) (by omega) hp.bd hq.bd) ?_ ?_ (fun W _ => refToldQ (600 + 600 + 1) (x + -y) W (by omega) (by omega) hbd) hst (errT_07 _)
            (fun h0 W _ => ref11_yes (isR_told h0) W) (fun h0 W _ => refRead _ _ _ W (isR_told h0)) (fun W _ => refFMinus Q W) (fun W _ => refFPlus 600 P (-Q) W (by omega) (by omega) hp.bd (bd_neg hq.bd)) ?_
          · intro W _
            have := refWhole_pos 0 W (by decide)
            rw [fx_zero] at this
            exact this
          · intro W _
            rw [hcmp]
            exact refCompare (600 + 600 + 1) (x + -y) 0 W (by omega) (by omega) hbd (bd_zero _ (by omega))
          · intro h0 W _
            have := refCompare 600 (P + -Q) (P + -Q) W (by omega) (by omega) (isR_told h0).bd (isR_told h0).bd
            rw [cmp_refl] at this
            exact this
        · subst he
          exact steps_no2 n d m k _ _ _ _ _ _ a b ff w hr1 hr2 (fun W _ => one_any a W) (fun W _ => one_any b W) ht1 ht2 haw hf
      · exact steps_no1 n d m k _ _ _ _ _ _ a b ee ff w hr1 hr2 (fun W _ => one_any a W) (fun W _ => one_any b W) ht1 ht2 haw he
    · refine steps_wrong2 n d m k a b w (fun W _ => ref11_yes hx W) (fun W _ => ?_) haw
      obtain ⟨ok, hok, hc⟩ := refR_any m k W s3 s4
      rw [show ok = false from by cases ok with | true => exact absurd (hok.1 rfl) h' | false => rfl] at hc
      exact hc
  · refine steps_wrong1 n d m k a b w (fun W _ => ?_) haw
    obtain ⟨ok, hok, hc⟩ := refR_any n d W s1 s2
    rw [show ok = false from by cases ok with | true => exact absurd (hok.1 rfl) h | false => rfl] at hc
    exact hc
end Go.Proofs.YtimihoonnglniaaGreatDoor
