/- nearest (76) over every number: what the floats around leave. -/
import Derived.Test.YtijifpbpjinmhaaGreatDoorV12
import Derived.Test.YtijifpbpjinmhaaGreatDoorOrd
import Derived.Test.YtijifpbpjinmhaaGreatDoorS1
import Derived.Test.YtijifpbpjinmhaaGreatDoorV3
import Derived.Test.YtijifpbpjinmhaaGreatDoorWords
set_option maxHeartbeats 8000000
set_option maxRecDepth 100000
namespace Go.Proofs.YtijifpbpjinmhaaGreatDoor
open Go.RowKit
/-- The word of a float that is not below 0. -/
def wd (x : Int) (m : Nat) : Nat := (x + 1074).toNat * 4503599627370496 + m
theorem wd_parts (x : Int) (m : Nat) (hx : -1074 ≤ x) (hx2 : x ≤ 971) (hm : m < 9007199254740992) (hn : x = -1074 ∨ 4503599627370496 ≤ m) : mvB (wd x m) = m ∧ evB (wd x m) = x := by
  obtain ⟨t, rfl⟩ : ∃ t : Nat, x = (t : Int) - 1074 := ⟨(x + 1074).toNat, by omega⟩
  have e : ((t : Int) - 1074 + 1074).toNat = t := by omega
  have ht : t ≤ 2045 := by omega
  unfold mvB evB wd xpB mtB
  rw [e]
  by_cases h : m < 4503599627370496
  · have ht0 : t = 0 := by omega
    subst ht0
    have h1 : (0 * 4503599627370496 + m) / 4503599627370496 % 2048 = 0 := by omega
    rw [if_pos h1, if_pos h1]
    omega
  · have h1 : (t * 4503599627370496 + m) / 4503599627370496 % 2048 = t + 1 := by omega
    have h2 : (t * 4503599627370496 + m) % 4503599627370496 = m - 4503599627370496 := by omega
    rw [h1, h2, if_neg (by omega), if_neg (by omega)]
    omega
theorem wd_next (x : Int) (hx : -1074 ≤ x) (hx2 : x ≤ 970) : mvB (wd x 9007199254740992) = 4503599627370496 ∧ evB (wd x 9007199254740992) = x + 1 := by
  have e : wd x 9007199254740992 = wd (x + 1) 4503599627370496 := by unfold wd; omega
  rw [e]
  exact wd_parts (x + 1) 4503599627370496 (by omega) (by omega) (by decide) (Or.inr (by decide))
theorem wd_succ (x : Int) (m : Nat) : wd x m + 1 = wd x (m + 1) := by unfold wd; omega
theorem wd_odd (x : Int) (m : Nat) : wd x m % 2 = m % 2 := by unfold wd; omega
/-- How far two numbers are from each other. -/
def farN (X Y : Nat) : Nat := if X < Y then Y - X else X - Y
def distN (p q a c : Nat) : Nat := if p * c < a * q then a * q - p * c else p * c - a * q
theorem dist_scaled (p q a c D U k : Nat) (hD : 0 < D) (h : a * D = k * U * c) : distN p q a c * D = c * farN (p * D) (k * (q * U)) := by
  have e1 : p * c * D = c * (p * D) := by rw [Nat.mul_comm p c, Nat.mul_assoc]
  have e2 : a * q * D = c * (k * (q * U)) := by
    rw [Nat.mul_right_comm, h]
    simp only [Nat.mul_comm, Nat.mul_left_comm]
  unfold distN farN
  rcases Nat.eq_zero_or_pos c with hc | hc
  · subst hc
    have : a = 0 := by
      rw [Nat.mul_zero] at h
      rcases Nat.eq_zero_or_pos a with h2 | h2
      · exact h2
      · have := Nat.mul_pos h2 hD; omega
    subst this
    simp
  · by_cases hlt : p * c < a * q
    · have h2 : p * D < k * (q * U) := by
        have := Nat.mul_lt_mul_of_pos_right hlt hD
        rw [e1, e2] at this
        exact Nat.lt_of_mul_lt_mul_left this
      rw [if_pos hlt, if_pos h2, Nat.sub_mul, Nat.mul_sub, e1, e2]
    · have h2 : ¬ p * D < k * (q * U) := by
        intro h3
        have := Nat.mul_lt_mul_of_pos_left h3 hc
        rw [← e1, ← e2] at this
        exact hlt (Nat.lt_of_mul_lt_mul_right this)
      rw [if_neg hlt, if_neg h2, Nat.sub_mul, Nat.mul_sub, e1, e2]
theorem cmpN_mul (a b k : Nat) (hk : 0 < k) : Cub.cmpN (a * k) (b * k) = Cub.cmpN a b := by
  unfold Cub.cmpN
  have h1 : a * k < b * k ↔ a < b := ⟨fun h => Nat.lt_of_mul_lt_mul_right h, fun h => Nat.mul_lt_mul_of_pos_right h hk⟩
  have h2 : b * k < a * k ↔ b < a := ⟨fun h => Nat.lt_of_mul_lt_mul_right h, fun h => Nat.mul_lt_mul_of_pos_right h hk⟩
  simp only [h1, h2]
theorem cmp_scaled (dF cF dG cG D X Y : Nat) (hD : 0 < D) (hF : 0 < cF) (hG : 0 < cG) (h1 : dF * D = cF * X) (h2 : dG * D = cG * Y) : Cub.cmpN (dF * cG) (dG * cF) = Cub.cmpN X Y := by
  rw [← cmpN_mul (dF * cG) (dG * cF) D hD]
  have e1 : dF * cG * D = X * (cF * cG) := by rw [Nat.mul_right_comm, h1]; simp only [Nat.mul_comm, Nat.mul_left_comm]
  have e2 : dG * cF * D = Y * (cF * cG) := by rw [Nat.mul_right_comm, h2]; simp only [Nat.mul_comm, Nat.mul_left_comm]
  rw [e1, e2, cmpN_mul _ _ _ (Nat.mul_pos hF hG)]
/-- A float's size, as the program tells it. -/
def nuF (b : Nat) : Nat := mvB b * pU (evB b)
def deF (b : Nat) : Nat := 1 * qU (evB b)
theorem deF_pos (b : Nat) : 0 < deF b := by unfold deF qU; rw [Nat.one_mul]; exact Nat.two_pow_pos _
theorem pq_U (x : Int) : pU x * qU (x + 1) * 2 = pU (x + 1) * qU x := by
  unfold pU qU
  rw [← Nat.pow_add, ← Nat.pow_succ, ← Nat.pow_add]; congr 1; omega
theorem size_k (x : Int) (m : Nat) (hx : -1074 ≤ x) (hx2 : x ≤ 971) (hm : m ≤ 9007199254740992) (hn : x = -1074 ∨ 4503599627370496 ≤ m) (hl : x = 971 → m < 9007199254740992) : nuF (wd x m) * qU x = m * pU x * deF (wd x m) := by
  by_cases h : m < 9007199254740992
  · obtain ⟨h1, h2⟩ := wd_parts x m hx hx2 h hn
    unfold nuF deF
    rw [h1, h2, Nat.one_mul]
  · have hm2 : m = 9007199254740992 := by omega
    subst hm2
    have hx3 : x ≤ 970 := by
      rcases Int.lt_or_le 970 x with h3 | h3
      · have := hl (by omega); omega
      · exact h3
    obtain ⟨h1, h2⟩ := wd_next x hx hx3
    unfold nuF deF
    rw [h1, h2, Nat.one_mul, Nat.mul_assoc, ← pq_U x]
    have e : (9007199254740992 : Nat) = 4503599627370496 * 2 := by decide
    rw [e]
    simp only [Nat.mul_assoc, Nat.mul_comm, Nat.mul_left_comm]
def dNg (p q f : Nat) : Nat := distN p q (nuF f) (deF f)
def cOg (p q f g : Nat) : Int := Cub.cmpN (dNg p q f * deF g) (dNg p q g * deF f)
theorem qU_pos (x : Int) : 0 < qU x := Nat.two_pow_pos _
/-- Of two neighbours, or of 0, how the distances compare. -/
theorem cOg_is (p q : Nat) (x : Int) (m k : Nat) (hm : nuF (wd x m) * qU x = m * pU x * deF (wd x m)) (g : Nat) (hg : nuF g * qU x = k * pU x * deF g) :
    cOg p q (wd x m) g = Cub.cmpN (farN (scA p x) (m * scB q x)) (farN (scA p x) (k * scB q x)) :=
  cmp_scaled _ _ _ _ (qU x) _ _ (qU_pos x) (deF_pos _) (deF_pos _) (dist_scaled p q _ _ (qU x) (pU x) m (qU_pos x) hm) (dist_scaled p q _ _ (qU x) (pU x) k (qU_pos x) hg)
def bestStepG (p q g f : Nat) : Nat := if nearO (cOg p q f g) f then f else g
theorem nearO_one (f : Nat) : nearO 1 f = false := by unfold nearO; simp
theorem best_first (p q : Nat) (x : Int) (m r : Nat) (hx : -1074 ≤ x) (hx2 : x ≤ 971) (hm : m < 9007199254740992) (hn : x = -1074 ∨ 4503599627370496 ≤ m) (hq : scA p x = m * scB q x + r) (hr : r < scB q x) : bestStepG p q 0 (wd x m) = wd x m := by
  unfold bestStepG
  have h0 : nuF 0 * qU x = 0 * pU x * deF 0 := by
    have : nuF 0 = 0 := by unfold nuF mvB xpB mtB; simp
    rw [this]; simp
  rw [cOg_is p q x m 0 (size_k x m hx hx2 (by omega) hn (fun _ => hm)) 0 h0]
  have e1 : farN (scA p x) (m * scB q x) = r := by unfold farN; rw [if_neg (by omega)]; omega
  have e2 : farN (scA p x) (0 * scB q x) = scA p x := by unfold farN; rw [if_neg (by omega)]; omega
  rw [e1, e2]
  rcases Nat.eq_zero_or_pos m with h | h
  · subst h
    have : x = -1074 := by omega
    subst this
    have e3 : wd (-1074) 0 = 0 := by unfold wd; decide
    rw [e3]; split <;> rfl
  · have hb : scB q x ≤ m * scB q x := Nat.le_mul_of_pos_left _ h
    have hc : Cub.cmpN r (scA p x) = -1 := by unfold Cub.cmpN; rw [if_pos (by omega)]
    rw [hc]
    have : nearO (-1) (wd x m) = true := by unfold nearO; simp
    rw [if_pos this]
theorem best_second (p q : Nat) (x : Int) (m r : Nat) (hx : -1074 ≤ x) (hx2 : x ≤ 971) (hm : m < 9007199254740992) (hn : x = -1074 ∨ 4503599627370496 ≤ m) (hq : scA p x = m * scB q x + r) (hr : r < scB q x) (hl : x = 971 → m + 1 < 9007199254740992) : bestStepG p q (wd x m) (wd x (m + 1)) = wd x (rndB m r (scB q x)) := by
  unfold bestStepG
  rw [cOg_is p q x (m + 1) m (size_k x (m + 1) hx hx2 (by omega) (by omega) hl) (wd x m) (size_k x m hx hx2 (by omega) hn (fun _ => hm))]
  have e1 : farN (scA p x) (m * scB q x) = r := by unfold farN; rw [if_neg (by omega)]; omega
  have e2 : farN (scA p x) ((m + 1) * scB q x) = scB q x - r := by
    have : (m + 1) * scB q x = m * scB q x + scB q x := Nat.succ_mul _ _
    unfold farN; rw [if_pos (by omega)]; omega
  rw [e1, e2]
  have ho := wd_odd x (m + 1)
  generalize scB q x = B at *
  unfold rndB
  by_cases h1 : B < r + r
  · have hc : Cub.cmpN (B - r) r = -1 := by unfold Cub.cmpN; rw [if_pos (by omega)]
    rw [hc, if_pos (Or.inl h1), if_pos (by unfold nearO; simp)]
  · by_cases h2 : r + r = B
    · have hc : Cub.cmpN (B - r) r = 0 := by unfold Cub.cmpN; rw [if_neg (by omega), if_neg (by omega)]
      rw [hc]
      by_cases h3 : m % 2 = 1
      · have h4 : wd x (m + 1) % 2 = 0 := by omega
        rw [if_pos (Or.inr ⟨h2, h3⟩), if_pos (by unfold nearO; simp [h4])]
      · have h4 : wd x (m + 1) % 2 = 1 := by omega
        rw [if_neg (show ¬(B < r + r ∨ r + r = B ∧ m % 2 = 1) by omega), if_neg (show ¬ nearO 0 (wd x (m + 1)) = true by unfold nearO; simp [h4])]
    · have hc : Cub.cmpN (B - r) r = 1 := by unfold Cub.cmpN; rw [if_neg (by omega), if_pos (by omega)]
      rw [hc, if_neg (show ¬(B < r + r ∨ r + r = B ∧ m % 2 = 1) by omega), nearO_one]
      rfl
theorem sc_end (p q T k : Nat) : scA p ((T : Int) + (k : Int)) = p ∧ scB q ((T : Int) + (k : Int)) = q * 2 ^ T * 2 ^ k := by
  unfold scA scB
  have e1 : (-((T : Int) + (k : Int))).toNat = 0 := by omega
  have e2 : ((T : Int) + (k : Int)).toNat = T + k := by omega
  rw [e1, e2, Nat.pow_zero, Nat.mul_one, Nat.pow_add, Nat.mul_assoc]
  exact ⟨rfl, rfl⟩
theorem fin_facts (p q T : Nat) (x : Int) (m r : Nat) (hT : T = 970) (hq : 0 < q) (hs : SzInv p q x x) (hm : scA p x = m * scB q x + r) (h : p < 18014398509481983 * (q * 2 ^ T)) :
    x ≤ 971 ∧ (x = 971 → m = 9007199254740991 → r + r < scB q x) := by
  have hG : 0 < q * 2 ^ T := Nat.mul_pos hq (Nat.two_pow_pos T)
  have h54 : (2 : Nat) ^ 54 = 18014398509481984 := by decide
  refine ⟨?_, ?_⟩
  · rcases Int.lt_or_le 971 x with h1 | h1
    · exfalso
      have h2 := hs.lo 971 (by decide) h1
      have e : (971 : Int) + 53 = (T : Int) + ((54 : Nat) : Int) := by omega
      rw [e, (sc_end p q T 54).1, (sc_end p q T 54).2, h54] at h2
      generalize q * 2 ^ T = G at *
      omega
    · exact h1
  · intro hx hm2
    subst hx
    have e : (971 : Int) = (T : Int) + ((1 : Nat) : Int) := by omega
    rw [e, (sc_end p q T 1).1, (sc_end p q T 1).2, hm2] at hm
    rw [e, (sc_end p q T 1).2]
    generalize q * 2 ^ T = G at *
    omega
theorem rnd_in (m r b : Nat) : rndB m r b = m ∨ rndB m r b = m + 1 := by unfold rndB; split <;> simp
theorem sz_lo (p q : Nat) (x : Int) (hq : 0 < q) (hz : SzInv p q x x) : x = -1074 ∨ 4503599627370496 ≤ quo p q x := by
  rcases Int.lt_or_le (-1074) x with h | h
  · right
    have h1 := hz.lo (x - 1) (by omega) (by omega)
    have h2 := (quo_lt p q x 52 hq)
    have e : x - 1 + 53 = x + ((52 : Nat) : Int) := by omega
    rw [e] at h1
    have h3 : ¬ quo p q x < 2 ^ 52 := fun h4 => h1 (h2.1 h4)
    rw [show (2 : Nat) ^ 52 = 4503599627370496 by decide] at h3
    omega
  · left; have := hz.l1; omega
end Go.Proofs.YtijifpbpjinmhaaGreatDoor
namespace Go.Proofs.YtijifpbpjinmhaaGreatDoor
open Go.RowKit Go.Shelf
theorem b100 (n : Nat) (h : n ≤ 2900) : 2 ^ n < 1000000000 ^ 100 := by
  have h1 : (2 : Nat) ^ 2900 < 1000000000 ^ 100 := by decide +kernel
  exact Nat.lt_of_le_of_lt (Nat.pow_le_pow_right (by decide) h) h1
theorem two_gen (x : Int) (h1 : -2900 ≤ x) (h2 : x ≤ 2900) (W : World) : Calls Tryz.prog 74 #[.int .i64 x] W fun e w' => ∃ v, e = .returned v ∧ IsSz w' v (pU x) (qU x) ∧ Below W.heap.size W w' := by
  by_cases h : 0 ≤ x
  · obtain ⟨n, rfl⟩ : ∃ n : Nat, x = (n : Int) := ⟨x.toNat, by omega⟩
    have e1 : pU (n : Int) = 2 ^ n := by unfold pU; rw [Int.toNat_natCast]
    have e2 : qU (n : Int) = 1 := by unfold qU; rw [show (-(n : Int)).toNat = 0 by omega, Nat.pow_zero]
    rw [e2]
    exact twoToP n (pU (n : Int)) 100 (by omega) e1.symm (by decide) (by decide) (by rw [e1]; exact b100 n (by omega)) (by decide +kernel) W
  · obtain ⟨n, rfl, hn⟩ : ∃ n : Nat, x = -(n : Int) ∧ 0 < n := ⟨(-x).toNat, by omega, by omega⟩
    have e1 : pU (-(n : Int)) = 1 := by unfold pU; rw [show (-(n : Int)).toNat = 0 by omega, Nat.pow_zero]
    have e2 : qU (-(n : Int)) = 2 ^ n := by unfold qU; rw [show (-(-(n : Int))).toNat = n by omega]
    rw [e1]
    exact twoToN n (qU (-(n : Int))) 100 hn (by omega) e2.symm (by decide) (by decide) (by rw [e2]; exact b100 n (by omega)) (by decide +kernel) W
theorem b40 (n : Nat) (h : n ≤ 1100) : 2 ^ n < 1000000000 ^ 40 := by
  have h1 : (2 : Nat) ^ 1100 < 1000000000 ^ 40 := by decide +kernel
  exact Nat.lt_of_le_of_lt (Nat.pow_le_pow_right (by decide) h) h1
theorem mvB_lt (b : Nat) : mvB b < 9007199254740992 := by unfold mvB mtB; split <;> omega
theorem evB_rng (b : Nat) (hb : b < 9218868437227405312) : -1074 ≤ evB b ∧ evB b ≤ 971 := by unfold evB xpB; split <;> omega
theorem bmul (B x y a b c : Nat) (hB : 0 < B) (hx : x < B ^ a) (hy : y < B ^ b) (hc : a + b ≤ c) : x * y < B ^ c := by
  have := Nat.mul_lt_mul'' hx hy
  rw [← Nat.pow_add] at this
  exact Nat.lt_of_lt_of_le this (Nat.pow_le_pow_right hB hc)
theorem nuF_lt (b : Nat) (hb : b < 9218868437227405312) : nuF b < 1000000000 ^ 50 ∧ deF b < 1000000000 ^ 50 := by
  obtain ⟨h1, h2⟩ := evB_rng b hb
  have h3 := b40 (evB b).toNat (by omega)
  have h4 := b40 (-(evB b)).toNat (by omega)
  have h5 : (9007199254740992 : Nat) < 1000000000 ^ 2 := by decide +kernel
  have h6 := Nat.lt_trans (mvB_lt b) h5
  refine ⟨?_, ?_⟩
  · exact bmul 1000000000 _ _ 2 40 50 (by decide) h6 h3 (by decide)
  · unfold deF qU; rw [Nat.one_mul]
    exact Nat.lt_of_lt_of_le h4 (Nat.pow_le_pow_right (by decide) (by decide))
theorem size_gen (f : Nat) (hf : f < 9218868437227405312) : SizeAns f (nuF f) (deF f) := fun W => by
  obtain ⟨h1, h2⟩ := evB_rng f hf
  have h5 : (9007199254740992 : Nat) < 1000000000 ^ 100 := by decide +kernel
  exact sizeOf_any f (mvB f) (evB f) (pU (evB f)) (qU (evB f)) 100 W (cut_any f (by omega)) (by have := mvB_lt f; omega) (two_gen (evB f) (by omega) (by omega)) (by decide) ⟨Nat.lt_trans (mvB_lt f) h5, by decide +kernel, b100 _ (by omega), b100 _ (by omega)⟩
theorem dNg_lt (p q f : Nat) (hp : p < 1000000000 ^ 100) (hq : q < 1000000000 ^ 100) (hf : f < 9218868437227405312) : dNg p q f < 1000000000 ^ 150 ∧ deF f < 1000000000 ^ 150 := by
  obtain ⟨h1, h2⟩ := nuF_lt f hf
  have hm2 : 1000000000 ^ 50 ≤ 1000000000 ^ 150 := Nat.pow_le_pow_right (by decide) (by decide)
  have h3 : p * deF f < 1000000000 ^ 150 := bmul 1000000000 p (deF f) 100 50 150 (by decide) hp h2 (by decide)
  have h4 : nuF f * q < 1000000000 ^ 150 := bmul 1000000000 (nuF f) q 50 100 150 (by decide) h1 hq (by decide)
  refine ⟨?_, Nat.lt_of_lt_of_le h2 hm2⟩
  unfold dNg distN
  split
  · exact Nat.lt_of_le_of_lt (Nat.sub_le _ _) h4
  · exact Nat.lt_of_le_of_lt (Nat.sub_le _ _) h3
theorem away_g (a1 : Option Addr) (l1 c1 : Nat) (a2 : Option Addr) (l2 c2 p q f : Nat) (w : World) (hf : f < 9218868437227405312) (hpl : p < 1000000000 ^ 100) (hql : q < 1000000000 ^ 100) (hp : IsBig w (.agg #[.slice a1 l1 c1]) p) (hq : IsBig w (.agg #[.slice a2 l2 c2]) q) :
    Calls Tryz.prog 126 #[.agg #[.slice a1 l1 c1, .slice a2 l2 c2], .float .f64 f] w fun e w' => ∃ v, e = .returned v ∧ IsSz w' v (dNg p q f) (deF f) ∧ Below w.heap.size w w' :=
  away_any a1 l1 c1 a2 l2 c2 p q (nuF f) (deF f) 100 f w hp hq (size_gen f hf) (by decide) ⟨hpl, hql, Nat.lt_of_lt_of_le (nuF_lt f hf).1 (Nat.pow_le_pow_right (by decide) (by decide)), Nat.lt_of_lt_of_le (nuF_lt f hf).2 (Nat.pow_le_pow_right (by decide) (by decide))⟩
theorem nearer_g (a1 : Option Addr) (l1 c1 : Nat) (a2 : Option Addr) (l2 c2 p q f g gx : Nat) (w : World) (hf : f < 9218868437227405312) (hg : g < 9218868437227405312) (hpl : p < 1000000000 ^ 100) (hql : q < 1000000000 ^ 100) (hx : OwnU w gx 54 #[.slice a1 l1 c1, .slice a2 l2 c2]) (hp : IsBig w (.agg #[.slice a1 l1 c1]) p) (hq : IsBig w (.agg #[.slice a2 l2 c2]) q) :
    Calls Tryz.prog 125 #[.float .f64 f, .float .f64 g, .pointer (some ⟨gx, 0, none⟩)] w fun e w' => e = .returned (.bool (nearO (cOg p q f g) f)) ∧ Below w.heap.size w w' :=
  nearer_any a1 l1 c1 a2 l2 c2 p q (dNg p q f) (deF f) (dNg p q g) (deF g) 150 f g gx (cOg p q f g) w hx hp hq (fun W hb => away_g _ _ _ _ _ _ p q f W hf hpl hql (hp.later hb) (hq.later hb)) (fun W hb => away_g _ _ _ _ _ _ p q g W hg hpl hql (hp.later hb) (hq.later hb)) (by decide) ⟨(dNg_lt p q f hpl hql hf).1, (dNg_lt p q f hpl hql hf).2, (dNg_lt p q g hpl hql hg).1, (dNg_lt p q g hpl hql hg).2⟩ rfl (cmp3 _ _)
/-- The floats around: the one not above, and the next. -/
abbrev LHF (f : Nat) := { x : Nat // x < 9218868437227405312 ∧ (x = f ∨ x = f + 1) }
def bestG (p q : Nat) {f : Nat} (l : List (LHF f)) : Nat := l.foldl (fun g x => bestStepG p q g x.1) 0
theorem bestG_snoc (p q : Nat) {f : Nat} (l : List (LHF f)) (x : LHF f) : bestG p q (l ++ [x]) = bestStepG p q (bestG p q l) x.1 := by simp [bestG]
theorem bestStepG_lt (p q g : Nat) {f : Nat} (x : LHF f) (h : g < 9218868437227405312) : bestStepG p q g x.1 < 9218868437227405312 := by
  unfold bestStepG
  split
  · exact x.2.1
  · exact h
theorem bestG_lt (p q : Nat) {f : Nat} (l : List (LHF f)) : bestG p q l < 9218868437227405312 := by
  suffices h : ∀ (l : List (LHF f)) (g : Nat), g < 9218868437227405312 → l.foldl (fun g x => bestStepG p q g x.1) g < 9218868437227405312 from h l 0 (by decide)
  intro l
  induction l with
  | nil => exact fun g h => h
  | cons x t ih => exact fun g h => ih _ (bestStepG_lt p q g x h)
def loF (f : Nat) (hf : f < 9218868437227405312) : LHF f := ⟨f, hf, Or.inl rfl⟩
def hiF (f : Nat) (hf : f < 9218868437227405311) : LHF f := ⟨f + 1, by omega, Or.inr rfl⟩
def seqF (f : Nat) (hf : f < 9218868437227405312) : List (LHF f) := if h : f < 9218868437227405311 then [loF f hf, hiF f h] else [loF f hf]
theorem cmp_lt (x y : Int) : (some (compare x y) == some Ordering.lt) = decide (x < y) := by
  simp only [compare, compareOfLessAndEq]
  split
  · rw [decide_eq_true (by omega)]; rfl
  · rw [decide_eq_false (by omega)]; split <;> rfl
theorem lt_max (b : Nat) (hb : b < 9218868437227405312) : (FloatKind.f64.format.order b 9218868437227405311 == some Ordering.lt) = decide (b < 9218868437227405311) := by
  have hm : Ieee.double.read 9218868437227405311 = .number false 9007199254740991 971 := by decide +kernel
  show ((Ieee.double.read b).order (Ieee.double.read 9218868437227405311) == some Ordering.lt) = _
  rw [hm]
  have hfin : ∀ (m : Nat) (i : Int), m ≤ 9007199254740991 → i ≤ 971 → ((Ieee.Datum.number false m i).order (.number false 9007199254740991 971) == some Ordering.lt) = decide (¬ (m = 9007199254740991 ∧ i = 971)) := by
    intro m i hm hi
    have hmin : min i 971 = i := by omega
    simp only [Ieee.Datum.order, hmin, Int.sub_self, Int.toNat_zero]
    rw [cmp_lt]
    have h1 : Ieee.signed false m 0 = (m : Int) := by unfold Ieee.signed; simp
    have h2 : Ieee.signed false 9007199254740991 (971 - i).toNat = ((9007199254740991 * 2 ^ (971 - i).toNat : Nat) : Int) := by
      unfold Ieee.signed
      rw [if_neg (by simp), Nat.shiftLeft_eq]
    rw [h1, h2]
    by_cases hi2 : i = 971
    · subst hi2
      have e : 9007199254740991 * 2 ^ ((971 : Int) - 971).toNat = 9007199254740991 := by decide
      rw [e]
      by_cases hm2 : m = 9007199254740991
      · subst hm2; decide
      · rw [decide_eq_true (by omega), decide_eq_true (by omega)]
    · have h3 : 2 ≤ 2 ^ (971 - i).toNat := by
        have : 2 ^ 1 ≤ 2 ^ (971 - i).toNat := Nat.pow_le_pow_right (by decide) (by omega)
        exact this
      generalize 2 ^ (971 - i).toNat = P at *
      rw [decide_eq_true (by omega), decide_eq_true (by omega)]
  unfold Ieee.Format.read
  simp only [sign_lt, inf_is, binade_is, least_is]
  have e0 : b % 9223372036854775808 = b := Nat.mod_eq_of_lt (by omega)
  have es : (b / 9223372036854775808 % 2 == 1) = false := by rw [beq_eq_false_iff_ne]; omega
  rw [e0, es]
  by_cases h1 : b < 4503599627370496
  · rw [if_pos h1, hfin _ _ (by omega) (by omega)]
    rw [decide_eq_true (by omega), decide_eq_true (by omega)]
  · rw [if_neg h1, if_pos (by omega), hfin _ _ (by omega) (by omega)]
    by_cases h2 : b = 9218868437227405311
    · subst h2; decide
    · rw [decide_eq_true (by omega), decide_eq_true (by omega)]
theorem next_g (f : Nat) (hf : f < 9218868437227405311) (w : World) : Calls Tryz.prog 22 #[.float .f64 f, .bool true] w fun e w' => e = .returned (.float .f64 (f + 1)) ∧ w' = w := by
  have := next_any f true (by omega) w
  have e : nextF f true = f + 1 := by
    have hn : nanB f = false := by unfold nanB; exact decide_eq_false (by omega)
    have hi : f ≠ 9218868437227405312 := by omega
    have hc : (false || (true && decide (f = 9218868437227405312)) || (!true && decide (f = 18442240474082181120))) = false := by simp [hi]
    have h1 : f < 9223372036854775808 := by omega
    have h2 : (f + 9223372036854775808 + 1) % 18446744073709551616 = f + 1 + 9223372036854775808 := by omega
    unfold nextF
    rw [hn, hc, if_neg (by decide), if_pos rfl]
    unfold orF rk
    rw [hn, if_neg (show ¬ (false = true) by decide), if_pos h1, h2, if_neg (by omega)]
    omega
  rwa [e] at this
attribute [local go_sem] Oper.semAt_some
theorem around1_g (n₀ b : Nat) (a1 : Option Addr) (l1 c1 : Nat) (a2 : Option Addr) (l2 c2 p q f : Nat) (hf : f < 9218868437227405312) (w : World) (ho : OwnU w b 54 #[.slice a1 l1 c1, .slice a2 l2 c2]) (hp : IsBig w (.agg #[.slice a1 l1 c1]) p) (hq : IsBig w (.agg #[.slice a2 l2 c2]) q) (htab : Tab w)
    (HFLO : ∀ W : World, IsBig W (.agg #[.slice a1 l1 c1]) p → IsBig W (.agg #[.slice a2 l2 c2]) q → Tab W → Calls Tryz.prog 174 #[.agg #[.slice a1 l1 c1, .slice a2 l2 c2]] W fun e w' => e = .returned (.float .f64 f) ∧ Below W.heap.size W w') :
    SeqStopsK Fence.wide 2 Tryz.prog 173 #[.pointer (some ⟨b, 0, none⟩)] (fun x : LHF f => #[.float .f64 x.1]) (Below n₀) (fun xs => xs = seqF f hf) (fun _ => True) 2 w := fun l J Jx W hW hJ hJx hY h0 => by
  have HFL := hide (HFLO W (hp.later hW) (hq.later hW) (htab.later hW))
  have u0 : W.cell? ⟨b, 0, none⟩ = some (.slice a1 l1 c1) := (ho.later hW).ub.c 0 _ rfl
  have u1 : W.cell? ⟨b, 1, none⟩ = some (.slice a2 l2 c2) := (ho.later hW).ub.c 1 _ rfl
  have hlt := lt_max f hf
  clear ho hp hq htab HFLO
  by_cases hmx : f < 9218868437227405311
  · rw [decide_eq_true hmx] at hlt
    refine callsIn_of_wp Tryz.func173 rfl trivial ?_ rfl
    simp only [Tryz.ntmps173, List.size_toArray, List.length_cons, List.length_nil, Nat.reduceAdd, Nat.reduceSub, Array.replicate_succ, Array.replicate_zero, List.push_toArray, List.append_toArray, List.nil_append, List.cons_append]
    gi_wp2_with (refine ⟨trivial, ?_⟩; gi_at_call 174; refine (callsIn_wide.2 (unhide HFL)).mono ?_; rintro e W1 ⟨rfl, hb⟩; have h01 : J [] W1 := hJ _ _ _ none h0 (grown_of hb) (fun r e => by cases e); clear u0 u1 hb; obtain ⟨f1, t1, as1, b1, hy1, hR1⟩ := hY [] (loF f hf) W1 h01 (by simp); dsimp only [loF] at hy1)
    refine hR1.mono ?_
    rintro e W2 (⟨rfl, hJ2, _⟩ | ⟨rfl, hx2⟩)
    · gi_wp2_with (refine ⟨trivial, ?_⟩; gi_at_call 22; refine (callsIn_wide.2 (next_g f hmx _)).mono ?_; rintro e W3 ⟨rfl, rfl⟩; obtain ⟨f2, t2, as2, b2, hy2, hR2⟩ := hY [loF f hf] (hiF f hmx) _ hJ2 (by simp); dsimp only [hiF] at hy2)
      refine hR2.mono ?_
      rintro e W4 (⟨rfl, hJ4, _⟩ | ⟨rfl, hx4⟩)
      · gi_wp2
        go_end0
        exact ⟨⟨_, rfl⟩, .inl ⟨[loF f hf, hiF f hmx], by unfold seqF; rw [dif_pos hmx], hJ4⟩⟩
      · gi_wp2
        go_end0
        exact ⟨⟨_, rfl⟩, .inr ⟨[loF f hf, hiF f hmx], trivial, hx4⟩⟩
    · gi_wp2
      go_end0
      exact ⟨⟨_, rfl⟩, .inr ⟨[loF f hf], trivial, hx2⟩⟩
  · rw [decide_eq_false hmx] at hlt
    refine callsIn_of_wp Tryz.func173 rfl trivial ?_ rfl
    simp only [Tryz.ntmps173, List.size_toArray, List.length_cons, List.length_nil, Nat.reduceAdd, Nat.reduceSub, Array.replicate_succ, Array.replicate_zero, List.push_toArray, List.append_toArray, List.nil_append, List.cons_append]
    gi_wp2_with (refine ⟨trivial, ?_⟩; gi_at_call 174; refine (callsIn_wide.2 (unhide HFL)).mono ?_; rintro e W1 ⟨rfl, hb⟩; have h01 : J [] W1 := hJ _ _ _ none h0 (grown_of hb) (fun r e => by cases e); clear u0 u1 hb; obtain ⟨f1, t1, as1, b1, hy1, hR1⟩ := hY [] (loF f hf) W1 h01 (by simp); dsimp only [loF] at hy1)
    refine hR1.mono ?_
    rintro e W2 (⟨rfl, hJ2, _⟩ | ⟨rfl, hx2⟩)
    · gi_wp2
      go_end0
      exact ⟨⟨_, rfl⟩, .inl ⟨[loF f hf], by unfold seqF; rw [dif_neg hmx], hJ2⟩⟩
    · gi_wp2
      go_end0
      exact ⟨⟨_, rfl⟩, .inr ⟨[loF f hf], trivial, hx2⟩⟩
end Go.Proofs.YtijifpbpjinmhaaGreatDoor
namespace Go.Proofs.YtijifpbpjinmhaaGreatDoor
open Go.RowKit Go.Shelf
attribute [local go_sem] Oper.semAt_some run_store_float
theorem nearest_g (a1 : Option Addr) (l1 c1 : Nat) (a2 : Option Addr) (l2 c2 p q f t : Nat) (hf : f < 9218868437227405312) (w : World) (hp : IsBig w (.agg #[.slice a1 l1 c1]) p) (hq : IsBig w (.agg #[.slice a2 l2 c2]) q) (htab : Tab w) (hpl : p < 1000000000 ^ 100) (hql : q < 1000000000 ^ 100)
    (HFLO : ∀ W : World, IsBig W (.agg #[.slice a1 l1 c1]) p → IsBig W (.agg #[.slice a2 l2 c2]) q → Tab W → Calls Tryz.prog 174 #[.agg #[.slice a1 l1 c1, .slice a2 l2 c2]] W fun e w' => e = .returned (.float .f64 f) ∧ Below W.heap.size W w') (hbest : bestG p q (seqF f hf) = t) :
    Calls Tryz.prog 76 #[.agg #[.slice a1 l1 c1, .slice a2 l2 c2]] w fun e w' => e = .returned (.float .f64 t) ∧ Below w.heap.size w w' := by
  refine (callsIn_wide (n := 3)).1 ?_
  refine callsIn_of_wp_marks Tryz.func76 rfl trivial ?_ rfl
  simp only [Tryz.ntmps76, List.size_toArray, List.length_cons, List.length_nil, Nat.reduceAdd, Nat.reduceSub, Array.replicate_succ, Array.replicate_zero, List.push_toArray, List.append_toArray, List.nil_append, List.cons_append]
  gi_wp2_with (refine ⟨trivial, ?_⟩; gi_at_call 127; refine (callsIn_wide.2 (around_any _ _ _ _ _ _ _)).mono ?_; rintro e w' ⟨rfl, rfl⟩)
  obtain ⟨V, hV⟩ : ∃ V, V = (((w.alloc (.cells #[.slice a1 l1 c1, .slice a2 l2 c2] 54)).alloc (.cells #[.func (.func 125) #[] #[.pointer (some ⟨w.heap.size, 0, none⟩)]] 28)).alloc (.cells #[.float .f64 0] 24)).alloc (.cells #[.slice a1 l1 c1, .slice a2 l2 c2] 54) := ⟨_, rfl⟩
  have hS : St w [(w.heap.size + 1 + 1 + 1, 54, #[.slice a1 l1 c1, .slice a2 l2 c2]), (w.heap.size + 1 + 1, 24, #[.float .f64 0]), (w.heap.size + 1, 28, #[.func (.func 125) #[] #[.pointer (some ⟨w.heap.size, 0, none⟩)]]), (w.heap.size, 54, #[.slice a1 l1 c1, .slice a2 l2 c2])] [] V := by
    rw [hV]
    have h := ((((St.nil (Below.refl _ w)).new #[.slice a1 l1 c1, .slice a2 l2 c2] 54).new #[.func (.func 125) #[] #[.pointer (some ⟨w.heap.size, 0, none⟩)]] 28).new #[.float .f64 0] 24).new #[.slice a1 l1 c1, .slice a2 l2 c2] 54
    simp only [World.size_alloc] at h
    exact h
  have hsz : V.heap.size = w.heap.size + 4 := by rw [hV]; simp
  have HP : Hid (∀ W, Below w.heap.size w W → IsBig W (.agg #[.slice a1 l1 c1]) p ∧ IsBig W (.agg #[.slice a2 l2 c2]) q) := fun W hb => ⟨hp.later hb, hq.later hb⟩
  have HSQ := hide (around1_g w.heap.size (w.heap.size + 1 + 1 + 1) a1 l1 c1 a2 l2 c2 p q f hf V (hS.at 0 rfl) (hp.later hS.below) (hq.later hS.below) (htab.later hS.below) HFLO)
  have HBE := hide hbest
  have HPL := hide hpl
  have HQL := hide hql
  have HS := hide hS
  rw [← hV]
  clear hp hq htab hS hV HFLO hbest hpl hql
  refine wpIn_rangeFunc_ownF rfl (by decide) (gf := 173) (lb := #[.pointer (some ⟨w.heap.size + 1 + 1 + 1, 0, none⟩)]) rfl trivial (enters_of Tryz.func173 (by kernel_rfl) rfl) (unhide HSQ) belowK_t (belowK_b (by omega)) (Below.refl _ _) (fun _ => rfl)
    (fun pre W => (OwnU W w.heap.size 54 #[.slice a1 l1 c1, .slice a2 l2 c2] ∧ OwnU W (w.heap.size + 1) 28 #[.func (.func 125) #[] #[.pointer (some ⟨w.heap.size, 0, none⟩)]] ∧ OwnU W (w.heap.size + 1 + 1) 24 #[.float .f64 (bestG p q pre)]) ∧ Below w.heap.size w W)
    (fun _ _ _ => False)
    (OwnFrom.and (Own.from (fun s A B row hs hg hr => ⟨hs.1.kept hg hr, hs.2.1.kept hg hr, hs.2.2.kept hg hr⟩) _) (ownFrom_below (Nat.le_refl _) (by omega)))
    (fun _ _ _ _ _ hs _ _ => hs)
    ⟨⟨(unhide HS).at 3 rfl, (unhide HS).at 2 rfl, (unhide HS).at 1 rfl⟩, (unhide HS).below⟩
    (fun x => { tmps := #[.agg #[.slice a1 l1 c1, .slice a2 l2 c2], .pointer (some ⟨w.heap.size, 0, none⟩), .float .f64 0, .pointer (some ⟨w.heap.size + 1, 0, none⟩), .pointer (some ⟨w.heap.size + 1 + 1, 0, none⟩), .float .f64 x.1, .func (.func 125) #[] #[.pointer (some ⟨w.heap.size, 0, none⟩)], .agg #[.slice a1 l1 c1, .slice a2 l2 c2], .func (.func 173) #[] #[.pointer (some ⟨w.heap.size + 1 + 1 + 1, 0, none⟩)], .float .f64 x.1, undef, undef, undef, undef, undef, undef], defers := [] }) ?assign ?body ?done ?stop
  case assign =>
    intro l x W K hK
    gi_wp2
    exact hK
  case body =>
    rintro l pre x W ⟨⟨h1, h2, h3⟩, hB⟩ _
    have u0 := h2.ub.c 0 _ rfl
    have u1 := h3.ub.c 0 _ rfl
    have u2 := h3.ub.f 0 _ rfl
    have HN := hide (nearer_g a1 l1 c1 a2 l2 c2 p q x.1 (bestG p q pre) w.heap.size W x.2.1 (bestG_lt p q pre) (unhide HPL) (unhide HQL) h1 (unhide HP W hB).1 (unhide HP W hB).2)
    have HB := hide hB
    have HO := hide (And.intro h1 (And.intro h2 h3))
    have HE : Hid (∀ b, nearO (cOg p q x.1 (bestG p q pre)) x.1 = b → bestG p q (pre ++ [x]) = if b then x.1 else bestG p q pre) := fun b hb => by rw [bestG_snoc]; unfold bestStepG; rw [hb]
    generalize nearO (cOg p q x.1 (bestG p q pre)) x.1 = nb at *
    clear h1 h2 h3 hB
    cases nb
    · gi_wp2_with (refine ⟨trivial, ?_⟩; gi_at_call 125; refine (CallsIn.inRound l (callsIn_wide.2 (unhide HN))).mono ?_; rintro e W2 ⟨rfl, hb⟩; have HO2 := hide (And.intro ((unhide HO).1.later hb) (And.intro ((unhide HO).2.1.later hb) ((unhide HO).2.2.later hb))); have HB2 : Hid (Below w.heap.size w W2) := (unhide HB).trans (hb.mono (unhide HB).size); have HK2 : Hid (KeepsOthers W W2 ∧ Below w.heap.size W W2) := ⟨keeps_below hb, hb.mono (unhide HB).size⟩; clear u0 u1 u2 hb; have u1 := (unhide HO2).2.2.ub.c 0 _ rfl; have u2 := (unhide HO2).2.2.ub.f 0 _ rfl)
      have e : bestG p q (pre ++ [x]) = bestG p q pre := unhide HE false rfl
      refine ⟨(unhide HK2).1, (unhide HK2).2, ⟨(unhide HO2).1, (unhide HO2).2.1, ?_⟩, unhide HB2⟩
      rw [e]
      exact (unhide HO2).2.2
    · gi_wp2_with (refine ⟨trivial, ?_⟩; gi_at_call 125; refine (CallsIn.inRound l (callsIn_wide.2 (unhide HN))).mono ?_; rintro e W2 ⟨rfl, hb⟩; have HO2 := hide (And.intro ((unhide HO).1.later hb) (And.intro ((unhide HO).2.1.later hb) ((unhide HO).2.2.later hb))); have HB2 : Hid (Below w.heap.size w W2) := (unhide HB).trans (hb.mono (unhide HB).size); have HK2 : Hid (KeepsOthers W W2 ∧ Below w.heap.size W W2) := ⟨keeps_below hb, hb.mono (unhide HB).size⟩; clear u0 u1 u2 hb; have u1 := (unhide HO2).2.2.ub.c 0 _ rfl; have u2 := (unhide HO2).2.2.ub.f 0 _ rfl)
      have e : bestG p q (pre ++ [x]) = x.1 := unhide HE true rfl
      refine ⟨(unhide HK2).1.trans (KeepsOthers.setCell _ _ _), (unhide HK2).2.setCell (p := ⟨w.heap.size + 1 + 1, 0, none⟩) (by show w.heap.size ≤ w.heap.size + 1 + 1; omega) _, ⟨?_, ?_, ?_⟩, (unhide HB2).setCell (p := ⟨w.heap.size + 1 + 1, 0, none⟩) (by show w.heap.size ≤ w.heap.size + 1 + 1; omega) _⟩
      all_goals rw [(unhide HO2).2.2.set1]
      · exact (unhide HO2).1.other (by omega) _
      · exact (unhide HO2).2.1.other (by omega) _
      · rw [e]; exact (unhide HO2).2.2.setRow _
  case done =>
    rintro D ys W hD rfl ⟨⟨_, _, h3⟩, hB⟩ hK
    have u1 := h3.ub.c 0 _ rfl
    rw [unhide HBE] at u1
    gi_wp2
    refine ⟨by simp, .inl ⟨_, _, rfl, run_takeDeferred hK, ?_⟩⟩
    exact ⟨_, results_tmp rfl _ _ _, rfl, hB.trans (belowK_b (w := w) (Nat.le_refl _) W D _ _ (by omega) hK rfl rfl)⟩
  case stop =>
    rintro D c pre W _ _ h _
    exact h.elim
end Go.Proofs.YtijifpbpjinmhaaGreatDoor
