/- FloNearest: the law, over all numbers. -/
import Derived.Test.YtijifpbpjinmhaaGreatDoorV16
import Derived.Test.YtijifpbpjinmhaaGreatDoorV10
import Derived.Test.YtijifpbpjinmhaaGreatDoorV3
import Derived.Test.YtijifpbpjinmhaaGreatDoorV12
namespace Go.Proofs.YtijifpbpjinmhaaGreatDoor
open Go.RowKit
theorem p67 (p : Nat) (h : p < 10 ^ 600) : p < 1000000000 ^ 100 := Nat.lt_of_lt_of_le h (Nat.le_trans pow600 (Nat.pow_le_pow_right (by decide) (by decide)))
theorem p40 (e : Int) (h1 : -1100 ≤ e) (h2 : e ≤ 1100) : pU e < 1000000000 ^ 100 ∧ qU e < 1000000000 ^ 100 := ⟨b100 _ (by omega), b100 _ (by omega)⟩
theorem sc_lim (p : Nat) (e : Int) (h : p < 10 ^ 600) (h1 : -1100 ≤ e) (h2 : e ≤ 1100) : p * qU e < 1000000000 ^ 200 := bmul 1000000000 p (qU e) 100 100 200 (by decide) (p67 p h) (p40 e h1 h2).2 (by decide)
theorem nD_pos (n : Nat) : 1 ≤ Lib.nDigits n := by
  rw [← Lib.decDigits_length]
  have := Cub.dec_ne_nil n
  cases hd : Lib.decDigits n with
  | nil => exact absurd hd this
  | cons a t => simp
theorem floor_any (a1 : Option Addr) (l1 c1 : Nat) (a2 : Option Addr) (l2 c2 : Nat) (p q : Nat) (x : Int) (w : World) (hp : IsBig w (.agg #[.slice a1 l1 c1]) p) (hq : IsBig w (.agg #[.slice a2 l2 c2]) q) (htab : Tab w) (hp0 : 0 < p) (hq0 : 0 < q) (hp6 : p < 10 ^ 600) (hq6 : q < 10 ^ 600) (hz : SzInv p q x x) (hx : x ≤ 971) :
    Calls Tryz.prog 174 #[.agg #[.slice a1 l1 c1, .slice a2 l2 c2]] w fun e w' => e = .returned (.float .f64 (wd x (quo p q x))) ∧ Below w.heap.size w w' := by
  obtain ⟨dx, hdx⟩ : ∃ dx, Lib.nDigits p = dx := ⟨_, rfl⟩
  obtain ⟨dy, hdy⟩ : ∃ dy, Lib.nDigits q = dy := ⟨_, rfl⟩
  have hx1 : 1 ≤ dx := hdx ▸ nD_pos p
  have hy1 : 1 ≤ dy := hdy ▸ nD_pos q
  have hx6 : dx ≤ 600 := hdx ▸ (len600 p).2 hp6
  have hy6 : dy ≤ 600 := hdy ▸ (len600 q).2 hq6
  have ha1 : 10 ^ (dx - 1) ≤ p := hdx ▸ Cub.nDigits_ge p hp0
  have hb1 : 10 ^ (dy - 1) ≤ q := hdy ▸ Cub.nDigits_ge q hq0
  have ha2 : p < 10 ^ dx := hdx ▸ dig_hi p
  have hb2 : q < 10 ^ dy := hdy ▸ dig_hi q
  obtain ⟨b, hb⟩ : ∃ b, b = bitsN ((dx : Int) - (dy : Int) - 1) := ⟨_, rfl⟩
  obtain ⟨hf1, hf2⟩ := bits_fit p q dx dy b ha1 ha2 hb1 hb2 hx1 hy1 hx6 hy6 hb
  have hbr : -2500 ≤ b ∧ b ≤ 2500 := by rw [hb]; exact bitsN_rng _ (by omega) (by omega)
  obtain ⟨ee, hee⟩ : ∃ ee, max (b - 53) (-1074) = ee := ⟨_, rfl⟩
  have hee2 : (ee = b - 53 ∧ -1074 ≤ b - 53) ∨ (ee = -1074 ∧ b - 53 ≤ -1074) := by omega
  have heex : ee ≤ x := by
    rcases hee2 with ⟨h1, h2⟩ | ⟨h1, h2⟩
    · rcases Int.lt_or_le x ee with h3 | h3
      · exact absurd (below_mono p q (x + 53) (b - 1) (by omega) hz.hi) hf1
      · exact h3
    · have := hz.l1; omega
  have hel : -1074 ≤ ee := by omega
  obtain ⟨M, hM⟩ : ∃ M, quo p q ee = M := ⟨_, rfl⟩
  have hM62 : M < 18446744073709551616 := by
    have h1 := (quo_lt p q ee 62 hq0).2 (below_mono p q (b + 9) (ee + ((62 : Nat) : Int)) (by omega) hf2)
    rw [hM] at h1
    have h2 : (2 : Nat) ^ 62 ≤ 18446744073709551616 := by decide
    omega
  have hd0 : 0 < q * pU ee := scB_pos q ee hq0
  have hlow : ee = -1074 ∨ 9007199254740992 ≤ quo p q (ee - 1) := by
    rcases hee2 with ⟨h1, h2⟩ | ⟨h1, h2⟩
    · right
      have h3 := quo53 p q (ee - 1) hq0
      have h4 : ee - 1 + 53 = b - 1 := by omega
      rw [h4] at h3
      exact Nat.le_of_not_lt (fun h5 => hf1 (h3.1 h5))
    · exact Or.inl h1
  refine floor_walk a1 l1 c1 a2 l2 c2 p q (qU ee) (pU ee) M b ee _ w hp hq htab (by rw [beq_eq_false_iff_ne]; omega) ⟨p67 p hp6, p67 q hq6, (p40 ee (by omega) (by omega)).2, sc_lim p ee hp6 (by omega) (by omega), (p40 ee (by omega) (by omega)).1⟩ hM62 hM hd0 (by omega) (by omega) (by omega) (by rw [IntKind.wrap_i64]; omega) (by omega) (by omega) ?_ ?_ ?_
  · intro W h1 h2
    rw [hb]
    exact bits_any a1 l1 c1 a2 l2 c2 p q 100 dx dy W h1 h2 (by decide) (p67 p hp6) (p67 q hq6) hdx hdy (by omega) (by omega)
  · intro W
    have h := two_gen (-ee) (by omega) (by omega) W
    have e1 : pU (-ee) = qU ee := rfl
    have e2 : qU (-ee) = pU ee := by unfold qU pU; rw [Int.neg_neg]
    rw [e1, e2] at h
    exact h
  · intro i hi hprev W
    have hi20 : i ≤ 20 := by
      rcases hprev with h | h
      · omega
      · have := half_small M (i - 1) hM62 h; omega
    have e1 : M / 2 ^ i = quo p q (ee + (i : Int)) := by rw [← hM]; exact quo_up p q ee i
    have hs : SzInv p q (ee + (i : Int)) (ee + (i : Int)) := by
      refine sz_of p q _ hq0 (by omega) (by omega) (e1 ▸ hi) ?_
      rcases hprev with h | h
      · subst h
        rw [show ee + ((0 : Nat) : Int) = ee by omega]
        exact hlow
      · rcases Nat.eq_zero_or_pos i with h0 | h0
        · subst h0
          rw [show ee + ((0 : Nat) : Int) = ee by omega]
          exact hlow
        · right
          rw [← hM, quo_up p q ee (i - 1)] at h
          rw [show ee + (i : Int) - 1 = ee + ((i - 1 : Nat) : Int) by omega]
          exact h
    have hxe := sz_one p q _ _ hs hz
    rw [e1, hxe]
    rw [e1, hxe] at hi
    have hj := join_any (quo p q x) (x + 1074).toNat hi (by omega) W
    rw [show (((x + 1074).toNat : Nat) : Int) - 1074 = x by omega] at hj
    exact hj
theorem bestG_nil (p q : Nat) {f : Nat} : bestG p q ([] : List (LHF f)) = 0 := rfl
theorem bestG_one (p q f : Nat) (hf : f < 9218868437227405312) (h : ¬ f < 9218868437227405311) : bestG p q (seqF f hf) = bestStepG p q 0 f := by
  unfold seqF
  rw [dif_neg h]
  have := bestG_snoc p q [] (loF f hf)
  rw [bestG_nil] at this
  exact this
theorem bestG_two (p q f : Nat) (hf : f < 9218868437227405312) (h : f < 9218868437227405311) : bestG p q (seqF f hf) = bestStepG p q (bestStepG p q 0 f) (f + 1) := by
  unfold seqF
  rw [dif_pos h]
  have h1 := bestG_snoc p q [loF f hf] (hiF f h)
  have h2 := bestG_snoc p q [] (loF f hf)
  rw [bestG_nil] at h2
  rw [List.nil_append] at h2
  rw [h2] at h1
  exact h1
theorem scA_zero (x : Int) : scA 0 x = 0 := by unfold scA; exact Nat.zero_mul _
theorem nearest_core (a1 : Option Addr) (l1 c1 : Nat) (a2 : Option Addr) (l2 c2 : Nat) (p q : Nat) (x : Int) (m r : Nat) (w : World) (hp : IsBig w (.agg #[.slice a1 l1 c1]) p) (hq : IsBig w (.agg #[.slice a2 l2 c2]) q) (htab : Tab w) (hp6 : p < 10 ^ 600) (hq6 : q < 10 ^ 600)
    (hx : -1074 ≤ x) (hx2 : x ≤ 971) (hm : m < 9007199254740992) (hn : x = -1074 ∨ 4503599627370496 ≤ m) (hqr : scA p x = m * scB q x + r) (hr : r < scB q x) (hend : x = 971 → m = 9007199254740991 → r + r < scB q x)
    (HFLO : ∀ W : World, IsBig W (.agg #[.slice a1 l1 c1]) p → IsBig W (.agg #[.slice a2 l2 c2]) q → Tab W → Calls Tryz.prog 174 #[.agg #[.slice a1 l1 c1, .slice a2 l2 c2]] W fun e w' => e = .returned (.float .f64 (wd x m)) ∧ Below W.heap.size W w') :
    Calls Tryz.prog 76 #[.agg #[.slice a1 l1 c1, .slice a2 l2 c2]] w fun e w' => e = .returned (.float .f64 (wd x (rndB m r (scB q x)))) ∧ Below w.heap.size w w' := by
  have hf : wd x m < 9218868437227405312 := by unfold wd; omega
  refine nearest_g a1 l1 c1 a2 l2 c2 p q (wd x m) _ hf w hp hq htab (p67 p hp6) (p67 q hq6) HFLO ?_
  have hb1 := best_first p q x m r hx hx2 hm hn hqr hr
  by_cases hmx : wd x m < 9218868437227405311
  · rw [bestG_two p q _ hf hmx, hb1, wd_succ]
    exact best_second p q x m r hx hx2 hm hn hqr hr (by intro h; subst h; unfold wd at hmx; omega)
  · rw [bestG_one p q _ hf hmx, hb1]
    have h1 : x = 971 ∧ m = 9007199254740991 := by unfold wd at hmx; omega
    have h2 := hend h1.1 h1.2
    have e : rndB m r (scB q x) = m := by unfold rndB; rw [if_neg (by omega)]
    rw [e]
theorem nearest_pos (a1 : Option Addr) (l1 c1 : Nat) (a2 : Option Addr) (l2 c2 : Nat) (p q T : Nat) (x : Int) (w : World) (hp : IsBig w (.agg #[.slice a1 l1 c1]) p) (hq : IsBig w (.agg #[.slice a2 l2 c2]) q) (htab : Tab w) (hp0 : 0 < p) (hq0 : 0 < q) (hp6 : p < 10 ^ 600) (hq6 : q < 10 ^ 600) (hz : SzInv p q x x) (hT : T = 970) (h : p < 18014398509481983 * (q * 2 ^ T)) :
    Calls Tryz.prog 76 #[.agg #[.slice a1 l1 c1, .slice a2 l2 c2]] w fun e w' => e = .returned (.float .f64 (wd x (rndB (quo p q x) (scA p x % scB q x) (scB q x)))) ∧ Below w.heap.size w w' := by
  have hm : scA p x = quo p q x * scB q x + scA p x % scB q x := by unfold quo; rw [Nat.mul_comm]; exact (Nat.div_add_mod _ _).symm
  have hf := fin_facts p q T x _ _ hT hq0 hz hm h
  exact nearest_core a1 l1 c1 a2 l2 c2 p q x _ _ w hp hq htab hp6 hq6 hz.l1 hf.1 ((quo53 p q x hq0).2 hz.hi) (sz_lo p q x hq0 hz) hm (Nat.mod_lt _ (scB_pos q x hq0)) hf.2 (fun W h1 h2 h3 => floor_any a1 l1 c1 a2 l2 c2 p q x W h1 h2 h3 hp0 hq0 hp6 hq6 hz hf.1)
theorem pos600 : 0 < 10 ^ 600 := by
  obtain ⟨K, hK⟩ : ∃ K, K = 600 := ⟨_, rfl⟩
  rw [← hK]
  exact Nat.pow_pos (by decide)
theorem nearest_zero (a1 : Option Addr) (l1 c1 : Nat) (a2 : Option Addr) (l2 c2 : Nat) (q : Nat) (w : World) (hp : IsBig w (.agg #[.slice a1 l1 c1]) 0) (hq : IsBig w (.agg #[.slice a2 l2 c2]) q) (htab : Tab w) (hq0 : 0 < q) (hq6 : q < 10 ^ 600) :
    Calls Tryz.prog 76 #[.agg #[.slice a1 l1 c1, .slice a2 l2 c2]] w fun e w' => e = .returned (.float .f64 0) ∧ Below w.heap.size w w' := by
  have hb := scB_pos q (-1074) hq0
  have e0 : wd (-1074) 0 = 0 := by unfold wd; decide
  have h := nearest_core a1 l1 c1 a2 l2 c2 0 q (-1074) 0 0 w hp hq htab pos600 hq6 (by decide) (by decide) (by decide) (Or.inl rfl) (by rw [scA_zero, Nat.zero_mul]) hb (fun h => by omega) (fun W h1 h2 h3 => by rw [e0]; exact floor_zero a1 l1 c1 a2 l2 c2 W h1)
  have e : rndB 0 0 (scB q (-1074)) = 0 := by unfold rndB; rw [if_neg (by omega)]
  rwa [e, e0] at h
theorem sz_600 (n d : Nat) (hn : n < 10 ^ 600) (hd : 0 < d) : ∃ x, SzInv n d x x := by
  obtain ⟨K, hK⟩ : ∃ K, K = 600 := ⟨_, rfl⟩
  have hp6 := pow600_two K (4 * K + 1) rfl
  rw [← hK] at hn
  refine sz_ex n d ?_
  unfold scA scB
  have e1 : (-(5053 : Int)).toNat = 0 := by decide
  have e2 : ((5053 : Int)).toNat = 5053 := by decide
  obtain ⟨T, hT⟩ : ∃ T, T = 5053 := ⟨_, rfl⟩
  rw [e1, e2, Nat.pow_zero, Nat.mul_one, ← hT]
  have h1 : n < 2 ^ T := Nat.lt_of_lt_of_le (Nat.lt_trans hn hp6) (Nat.pow_le_pow_right (by decide) (by omega))
  exact Nat.lt_of_lt_of_le h1 (Nat.le_mul_of_pos_left _ hd)
theorem cmp_end (n d P T : Nat) (hP : P = 2 ^ T) : (Cub.cmpN (n * (1 * 1)) (18014398509481983 * P * d) = -1 ∧ n < 18014398509481983 * (d * 2 ^ T)) ∨ (0 ≤ Cub.cmpN (n * (1 * 1)) (18014398509481983 * P * d) ∧ ¬ n < 18014398509481983 * (d * 2 ^ T)) := by
  have e : 18014398509481983 * P * d = 18014398509481983 * (d * 2 ^ T) := by rw [hP, Nat.mul_assoc, Nat.mul_comm (2 ^ T) d]
  rw [e]
  simp only [Nat.mul_one]
  generalize 18014398509481983 * (d * 2 ^ T) = E
  unfold Cub.cmpN
  by_cases h : n < E
  · rw [if_pos h]; exact Or.inl ⟨rfl, h⟩
  · rw [if_neg h]; right; refine ⟨?_, h⟩; split <;> decide
theorem word_eta (b : Nat) (hb : b < 9218868437227405312) : b = wd (evB b) (mvB b) ∧ mvB b < 9007199254740992 ∧ (evB b = -1074 ∨ 4503599627370496 ≤ mvB b) := by
  unfold wd evB mvB xpB mtB
  split <;> omega
/-- A float's size in parts of the least one. -/
def zF (T b : Nat) : Nat := mvB b * 2 ^ (evB b + (T : Int)).toNat
theorem zF_wd (T : Nat) (x : Int) (m : Nat) (hT : T = 1074) (hx : -1074 ≤ x) (hx2 : x ≤ 971) (hm : m ≤ 9007199254740992) (hn : x = -1074 ∨ 4503599627370496 ≤ m) (hl : x = 971 → m < 9007199254740992) : zF T (wd x m) = m * 2 ^ (x + (T : Int)).toNat := by
  by_cases h : m < 9007199254740992
  · obtain ⟨h1, h2⟩ := wd_parts x m hx hx2 h hn
    unfold zF; rw [h1, h2]
  · have hm2 : m = 9007199254740992 := by omega
    subst hm2
    have hx3 : x ≤ 970 := by
      rcases Int.lt_or_le 970 x with h3 | h3
      · have := hl (by omega); omega
      · exact h3
    obtain ⟨h1, h2⟩ := wd_next x hx hx3
    unfold zF; rw [h1, h2]
    have e : (9007199254740992 : Nat) = 4503599627370496 * 2 := by decide
    rw [e, Nat.mul_assoc, Nat.mul_comm 2, ← Nat.pow_succ]
    congr 2; omega
theorem zF_step (T b : Nat) (hT : T = 1074) (hb : b + 1 < 9218868437227405312) : zF T b < zF T (b + 1) := by
  obtain ⟨e, h1, h2⟩ := word_eta b (by omega)
  obtain ⟨r1, r2⟩ := evB_rng b (by omega)
  generalize evB b = x at *
  generalize mvB b = m at *
  have hl : x = 971 → m + 1 < 9007199254740992 := by intro h; subst h; unfold wd at e; omega
  rw [e, wd_succ, zF_wd T x m hT r1 r2 (by omega) h2 (fun _ => h1), zF_wd T x (m + 1) hT r1 r2 (by omega) (by omega) hl]
  exact Nat.mul_lt_mul_of_pos_right (Nat.lt_succ_self m) (Nat.two_pow_pos _)
theorem zF_mono (T u v : Nat) (hT : T = 1074) (huv : u ≤ v) (hv : v < 9218868437227405312) : zF T u ≤ zF T v := by
  obtain ⟨k, rfl⟩ : ∃ k, v = u + k := ⟨v - u, by omega⟩
  clear huv
  induction k with
  | zero => exact Nat.le_refl _
  | succ k ih => exact Nat.le_trans (ih (by omega)) (Nat.le_of_lt (zF_step T (u + k) hT hv))
theorem sc_T (n d T : Nat) (x : Int) (hT : T = 1074) (hx : -1074 ≤ x) : n * 2 ^ T = scA n x * 2 ^ (T - (-x).toNat) ∧ ∀ k, k * 2 ^ (x + (T : Int)).toNat * d = k * scB d x * 2 ^ (T - (-x).toNat) := by
  refine ⟨?_, fun k => ?_⟩
  · unfold scA
    rw [Nat.mul_assoc, ← Nat.pow_add]; congr 2; omega
  · unfold scB
    have e : (x + (T : Int)).toNat = x.toNat + (T - (-x).toNat) := by omega
    rw [e, Nat.pow_add]
    simp only [Nat.mul_assoc, Nat.mul_comm, Nat.mul_left_comm]
/-- The word of the float nearest to a size. -/
def NearU (n d u : Nat) : Prop := ∃ (x : Int) (m r : Nat), -1074 ≤ x ∧ x ≤ 971 ∧ m < 9007199254740992 ∧ (x = -1074 ∨ 4503599627370496 ≤ m) ∧ scA n x = m * scB d x + r ∧ r < scB d x ∧ (x = 971 → m = 9007199254740991 → r + r < scB d x) ∧ u = wd x (rndB m r (scB d x))
theorem NearU.lt {n d u : Nat} (h : NearU n d u) : u < 9218868437227405312 := by
  obtain ⟨x, m, r, h1, h2, h3, h4, h5, h6, h7, rfl⟩ := h
  rcases rnd_in m r (scB d x) with e | e
  · rw [e]; unfold wd; omega
  · have hne : ¬ (x = 971 ∧ m = 9007199254740991) := by
      rintro ⟨e1, e2⟩
      have := h7 e1 e2
      unfold rndB at e
      rw [if_neg (by omega)] at e
      omega
    rw [e]; unfold wd; omega
theorem rnd_mono (m r b s c : Nat) (h : s * b ≤ r * c) (hb : 0 < b) (hc : 0 < c) : rndB m s c ≤ rndB m r b := by
  have hin := rnd_in m s c
  unfold rndB at *
  by_cases h1 : c < s + s ∨ (s + s = c ∧ m % 2 = 1)
  · have h2 : b < r + r ∨ (r + r = b ∧ m % 2 = 1) := by
      have hge : c * b ≤ (r + r) * c := by
        have e1 : (s + s) * b = s * b + s * b := Nat.add_mul _ _ _
        have e2 : (r + r) * c = r * c + r * c := Nat.add_mul _ _ _
        have e3 : c * b ≤ (s + s) * b := Nat.mul_le_mul_right b (by omega)
        omega
      rw [Nat.mul_comm c b] at hge
      have hle := Nat.le_of_mul_le_mul_right hge hc
      rcases h1 with h1 | ⟨h1, h3⟩
      · left
        have e1 : (s + s) * b = s * b + s * b := Nat.add_mul _ _ _
        have e2 : (r + r) * c = r * c + r * c := Nat.add_mul _ _ _
        have e3 : c * b < (s + s) * b := Nat.mul_lt_mul_of_pos_right h1 hb
        have e4 : b * c < (r + r) * c := by rw [Nat.mul_comm b c]; omega
        exact Nat.lt_of_mul_lt_mul_right e4
      · rcases Nat.lt_or_ge b (r + r) with h4 | h4
        · exact Or.inl h4
        · exact Or.inr ⟨by omega, h3⟩
    rw [if_pos h1, if_pos h2]
    exact Nat.le_refl _
  · rw [if_neg h1]
    split <;> omega
theorem NearU.mono {n d u k e v : Nat} (h : NearU n d u) (g : NearU k e v) (he : 0 < e) (hle : k * d ≤ n * e) : v ≤ u := by
  obtain ⟨T, hT⟩ : ∃ T, T = 1074 := ⟨_, rfl⟩
  have hu := h.lt
  have hv := g.lt
  obtain ⟨x, m, r, h1, h2, h3, h4, h5, h6, h7, eu⟩ := h
  obtain ⟨y, l, s, g1, g2, g3, g4, g5, g6, g7, ev⟩ := g
  obtain ⟨s1, s2⟩ := sc_T n d T x hT h1
  obtain ⟨t1, t2⟩ := sc_T k e T y hT g1
  have hin := rnd_in m r (scB d x)
  have gin := rnd_in l s (scB e y)
  have hwx : wd x m < 9218868437227405312 := by unfold wd; omega
  have hwy : wd y l < 9218868437227405312 := by unfold wd; omega
  have hux : wd x m ≤ u := by rw [eu]; rcases hin with a | a <;> rw [a] <;> unfold wd <;> omega
  have hvy : v ≤ wd y l + 1 := by rw [ev]; rcases gin with a | a <;> rw [a] <;> unfold wd <;> omega
  rcases Nat.lt_trichotomy (wd y l) (wd x m) with hc | hc | hc
  · omega
  · obtain ⟨p1, p2⟩ := wd_parts x m h1 h2 h3 h4
    obtain ⟨q1, q2⟩ := wd_parts y l g1 g2 g3 g4
    rw [hc] at q1 q2
    have exy : x = y := by rw [← p2, q2]
    have eml : m = l := by rw [← p1, q1]
    subst exy eml
    have hrs : s * scB d x ≤ r * scB e x := by
      have e1 : scA k x * scB d x = scB e x * (m * scB d x) + s * scB d x := by rw [g5, Nat.add_mul]; simp only [Nat.mul_assoc, Nat.mul_comm, Nat.mul_left_comm]
      have e2 : scA n x * scB e x = scB e x * (m * scB d x) + r * scB e x := by rw [h5, Nat.add_mul]; simp only [Nat.mul_assoc, Nat.mul_comm]
      have e3 : scA k x * scB d x ≤ scA n x * scB e x := by
        unfold scA scB
        have q1 : k * 2 ^ (-x).toNat * (d * 2 ^ x.toNat) = k * d * (2 ^ (-x).toNat * 2 ^ x.toNat) := by simp only [Nat.mul_assoc, Nat.mul_comm, Nat.mul_left_comm]
        have q2 : n * 2 ^ (-x).toNat * (e * 2 ^ x.toNat) = n * e * (2 ^ (-x).toNat * 2 ^ x.toNat) := by simp only [Nat.mul_assoc, Nat.mul_comm, Nat.mul_left_comm]
        rw [q1, q2]
        exact Nat.mul_le_mul_right _ hle
      omega
    have := rnd_mono m r (scB d x) s (scB e x) hrs (by omega) (by omega)
    rw [eu, ev]
    unfold wd; omega
  · exfalso
    have hst : wd x (m + 1) ≤ wd y l := by rw [← wd_succ]; omega
    have hl : x = 971 → m + 1 < 9007199254740992 := by intro hx; subst hx; unfold wd at hst hwy; omega
    have hz := zF_mono T _ _ hT hst hwy
    rw [zF_wd T x (m + 1) hT h1 h2 (by omega) (by omega) hl, zF_wd T y l hT g1 g2 (by omega) g4 (fun _ => g3)] at hz
    have a1 : n * 2 ^ T < (m + 1) * 2 ^ (x + (T : Int)).toNat * d := by
      rw [s1, s2]
      refine Nat.mul_lt_mul_of_pos_right ?_ (Nat.two_pow_pos _)
      rw [h5, Nat.succ_mul]
      omega
    have a2 : l * 2 ^ (y + (T : Int)).toNat * e ≤ k * 2 ^ T := by
      rw [t1, t2]
      exact Nat.mul_le_mul_right _ (by omega)
    generalize (m + 1) * 2 ^ (x + (T : Int)).toNat = A at *
    generalize l * 2 ^ (y + (T : Int)).toNat = B at *
    generalize 2 ^ T = P at *
    have b1 : n * P * e < A * d * e := Nat.mul_lt_mul_of_pos_right a1 he
    have b2 : B * e * d ≤ k * P * d := Nat.mul_le_mul_right d a2
    have b3 : A * d * e ≤ B * e * d := by
      have := Nat.mul_le_mul_right (d * e) hz
      have e1 : A * d * e = A * (d * e) := Nat.mul_assoc _ _ _
      have e2 : B * e * d = B * (d * e) := by rw [Nat.mul_assoc, Nat.mul_comm e d]
      omega
    have b4 : k * P * d ≤ n * P * e := by
      have := Nat.mul_le_mul_right P hle
      have e1 : k * P * d = k * d * P := Nat.mul_right_comm _ _ _
      have e2 : n * P * e = n * e * P := Nat.mul_right_comm _ _ _
      omega
    omega
theorem pq_four (e : Int) : pU (e - 2) * 4 * qU e = pU e * qU (e - 2) := by
  unfold pU qU
  rw [show (4 : Nat) = 2 ^ 2 by decide, ← Nat.pow_add, ← Nat.pow_add, ← Nat.pow_add]
  congr 1; omega
theorem pU_pos (x : Int) : 0 < pU x := Nat.two_pow_pos _
/-- A number within a float's room, in parts of the room, is so in parts of the float's last place. -/
theorem room_lo (a b L : Nat) (e : Int) (h : pU (e - 2) * L * b ≤ a * qU (e - 2)) : L * scB b e ≤ 4 * scA a e := by
  have h1 := Nat.mul_le_mul_right (4 * qU e) h
  have e1 : pU (e - 2) * L * b * (4 * qU e) = L * scB b e * qU (e - 2) := by
    have : pU (e - 2) * L * b * (4 * qU e) = L * b * (pU (e - 2) * 4 * qU e) := by simp only [Nat.mul_assoc, Nat.mul_comm, Nat.mul_left_comm]
    rw [this, pq_four]
    show L * b * (pU e * qU (e - 2)) = L * (b * pU e) * qU (e - 2)
    simp only [Nat.mul_assoc]
  have e2 : a * qU (e - 2) * (4 * qU e) = 4 * scA a e * qU (e - 2) := by
    show a * qU (e - 2) * (4 * qU e) = 4 * (a * qU e) * qU (e - 2)
    simp only [Nat.mul_assoc, Nat.mul_comm, Nat.mul_left_comm]
  rw [e1, e2] at h1
  exact Nat.le_of_mul_le_mul_right h1 (qU_pos _)
theorem room_hi (a b L : Nat) (e : Int) (h : a * qU (e - 2) ≤ pU (e - 2) * L * b) : 4 * scA a e ≤ L * scB b e := by
  have h1 := Nat.mul_le_mul_right (4 * qU e) h
  have e1 : pU (e - 2) * L * b * (4 * qU e) = L * scB b e * qU (e - 2) := by
    have : pU (e - 2) * L * b * (4 * qU e) = L * b * (pU (e - 2) * 4 * qU e) := by simp only [Nat.mul_assoc, Nat.mul_comm, Nat.mul_left_comm]
    rw [this, pq_four]
    show L * b * (pU e * qU (e - 2)) = L * (b * pU e) * qU (e - 2)
    simp only [Nat.mul_assoc]
  have e2 : a * qU (e - 2) * (4 * qU e) = 4 * scA a e * qU (e - 2) := by
    show a * qU (e - 2) * (4 * qU e) = 4 * (a * qU e) * qU (e - 2)
    simp only [Nat.mul_assoc, Nat.mul_comm, Nat.mul_left_comm]
  rw [e1, e2] at h1
  exact Nat.le_of_mul_le_mul_right h1 (qU_pos _)
theorem room_lo_lt (a b L : Nat) (e : Int) (h : pU (e - 2) * L * b < a * qU (e - 2)) : L * scB b e < 4 * scA a e := by
  rcases Nat.lt_or_ge (L * scB b e) (4 * scA a e) with h1 | h1
  · exact h1
  · exfalso
    have e1 : pU (e - 2) * L * b * (4 * qU e) = L * scB b e * qU (e - 2) := by
      have : pU (e - 2) * L * b * (4 * qU e) = L * b * (pU (e - 2) * 4 * qU e) := by simp only [Nat.mul_assoc, Nat.mul_comm, Nat.mul_left_comm]
      rw [this, pq_four]
      show L * b * (pU e * qU (e - 2)) = L * (b * pU e) * qU (e - 2)
      simp only [Nat.mul_assoc]
    have e2 : a * qU (e - 2) * (4 * qU e) = 4 * scA a e * qU (e - 2) := by
      show a * qU (e - 2) * (4 * qU e) = 4 * (a * qU e) * qU (e - 2)
      simp only [Nat.mul_assoc, Nat.mul_comm, Nat.mul_left_comm]
    have h2 := Nat.mul_le_mul_right (qU (e - 2)) h1
    have h3 := Nat.mul_lt_mul_of_pos_right h (show 0 < 4 * qU e from Nat.mul_pos (by decide) (qU_pos e))
    omega
theorem room_hi_lt (a b L : Nat) (e : Int) (h : a * qU (e - 2) < pU (e - 2) * L * b) : 4 * scA a e < L * scB b e := by
  rcases Nat.lt_or_ge (4 * scA a e) (L * scB b e) with h1 | h1
  · exact h1
  · exfalso
    have e1 : pU (e - 2) * L * b * (4 * qU e) = L * scB b e * qU (e - 2) := by
      have : pU (e - 2) * L * b * (4 * qU e) = L * b * (pU (e - 2) * 4 * qU e) := by simp only [Nat.mul_assoc, Nat.mul_comm, Nat.mul_left_comm]
      rw [this, pq_four]
      show L * b * (pU e * qU (e - 2)) = L * (b * pU e) * qU (e - 2)
      simp only [Nat.mul_assoc]
    have e2 : a * qU (e - 2) * (4 * qU e) = 4 * scA a e * qU (e - 2) := by
      show a * qU (e - 2) * (4 * qU e) = 4 * (a * qU e) * qU (e - 2)
      simp only [Nat.mul_assoc, Nat.mul_comm, Nat.mul_left_comm]
    have h2 := Nat.mul_le_mul_right (qU (e - 2)) h1
    have h3 := Nat.mul_lt_mul_of_pos_right h (show 0 < 4 * qU e from Nat.mul_pos (by decide) (qU_pos e))
    omega
/-- A number in the room of a float has that as its nearest one. -/
theorem room_near (a b m bl : Nat) (e : Int) (hb : 0 < b) (h1 : -1074 ≤ e) (h2 : e ≤ 971) (hm0 : 0 < m) (hm : m < 9007199254740992) (hn : e = -1074 ∨ 4503599627370496 ≤ m) (hbl : (m = 4503599627370496 ∧ -1074 < e ∧ bl = 1) ∨ (¬ (m = 4503599627370496 ∧ -1074 < e) ∧ bl = 2))
    (hlo : (4 * m - bl) * scB b e ≤ 4 * scA a e) (hhi : 4 * scA a e ≤ (4 * m + 2) * scB b e) (hev : m % 2 = 1 → (4 * m - bl) * scB b e < 4 * scA a e ∧ 4 * scA a e < (4 * m + 2) * scB b e) : NearU a b (wd e m) := by
  have hB := scB_pos b e hb
  by_cases hge : m * scB b e ≤ scA a e
  · refine ⟨e, m, scA a e - m * scB b e, h1, h2, hm, hn, by omega, ?_, ?_, ?_⟩
    · have e1 : (4 * m + 2) * scB b e = 4 * (m * scB b e) + 2 * scB b e := by rw [Nat.add_mul, Nat.mul_assoc]
      omega
    · intro _ hm2
      have e1 : (4 * m + 2) * scB b e = 4 * (m * scB b e) + 2 * scB b e := by rw [Nat.add_mul, Nat.mul_assoc]
      have := (hev (by omega)).2
      omega
    · have e1 : (4 * m + 2) * scB b e = 4 * (m * scB b e) + 2 * scB b e := by rw [Nat.add_mul, Nat.mul_assoc]
      have hno : ¬ (scB b e < (scA a e - m * scB b e) + (scA a e - m * scB b e) ∨ ((scA a e - m * scB b e) + (scA a e - m * scB b e) = scB b e ∧ m % 2 = 1)) := by
        rintro (h3 | ⟨h3, h4⟩)
        · omega
        · have := (hev h4).2; omega
      unfold rndB
      rw [if_neg hno]
  · rcases hbl with ⟨hp1, hp2, hp3⟩ | ⟨hp, hp3⟩
    · subst hp1 hp3
      obtain ⟨s, s1, s2⟩ := sc_up a b (e - 1) 1
      have e0 : e - 1 + ((1 : Nat) : Int) = e := by omega
      rw [e0] at s1 s2
      have hP := Nat.two_pow_pos s
      generalize 2 ^ s = S at *
      generalize scA a e = sA at *
      generalize scB b e = sB at *
      generalize hA' : scA a (e - 1) = A' at *
      generalize hB' : scB b (e - 1) = B' at *
      rw [Nat.pow_one] at s2
      have k1 : 18014398509481983 * B' ≤ 2 * A' := by
        have := Nat.mul_le_mul_right S hlo
        have q1 : (4 * 4503599627370496 - 1) * sB * S = 18014398509481983 * (sB * S) := Nat.mul_assoc _ _ _
        have q2 : 4 * sA * S = 4 * (sA * S) := Nat.mul_assoc _ _ _
        rw [q1, q2, ← s1, ← s2] at this
        omega
      have k2 : A' < 9007199254740992 * B' := by
        have h5 : sA < 4503599627370496 * sB := by omega
        have := Nat.mul_lt_mul_of_pos_right h5 hP
        rw [Nat.mul_assoc, ← s1, ← s2] at this
        omega
      refine ⟨e - 1, 9007199254740991, A' - 9007199254740991 * B', by omega, by omega, by decide, Or.inr (by decide), by rw [hA', hB']; omega, by rw [hB']; omega, fun h => by omega, ?_⟩
      rw [hB']
      have hyes : B' < (A' - 9007199254740991 * B') + (A' - 9007199254740991 * B') ∨ ((A' - 9007199254740991 * B') + (A' - 9007199254740991 * B') = B' ∧ 9007199254740991 % 2 = 1) := by
        rcases Nat.lt_or_ge B' ((A' - 9007199254740991 * B') + (A' - 9007199254740991 * B')) with h6 | h6
        · exact Or.inl h6
        · exact Or.inr ⟨by omega, by decide⟩
      unfold rndB
      rw [if_pos hyes]
      unfold wd; omega
    · subst hp3
      have hm1 : m = (m - 1) + 1 := by omega
      have e1 : (4 * m - 2) * scB b e + 2 * scB b e = 4 * (m * scB b e) := by rw [← Nat.add_mul, ← Nat.mul_assoc]; congr 1; omega
      have e2 : m * scB b e = (m - 1) * scB b e + scB b e := by
        have := Nat.succ_mul (m - 1) (scB b e)
        rw [show (m - 1).succ = m by omega] at this
        exact this
      refine ⟨e, m - 1, scA a e - (m - 1) * scB b e, h1, h2, by omega, ?_, by omega, by omega, ?_, ?_⟩
      · rcases hn with h | h
        · exact Or.inl h
        · rcases Nat.lt_or_ge 4503599627370496 m with h3 | h3
          · right; omega
          · left; omega
      · intro _ hm2; omega
      · have hyes : scB b e < (scA a e - (m - 1) * scB b e) + (scA a e - (m - 1) * scB b e) ∨ ((scA a e - (m - 1) * scB b e) + (scA a e - (m - 1) * scB b e) = scB b e ∧ (m - 1) % 2 = 1) := by
          rcases Nat.mod_two_eq_zero_or_one m with h3 | h3
          · rcases Nat.lt_or_ge (scB b e) ((scA a e - (m - 1) * scB b e) + (scA a e - (m - 1) * scB b e)) with h6 | h6
            · exact Or.inl h6
            · exact Or.inr ⟨by omega, by omega⟩
          · have := (hev h3).1
            left; omega
        unfold rndB
        rw [if_pos hyes, ← hm1]
theorem dec_cases (l h : Bool) (o u q d : Nat) (hd : decO l h o u q = some d) : (l = true ∧ d = q) ∨ (h = true ∧ d = q + 1) := by
  unfold decO at hd
  cases l <;> cases h <;> simp at hd
  · exact Or.inr ⟨rfl, hd.symm⟩
  · exact Or.inl ⟨rfl, hd.symm⟩
  · split at hd
    · exact Or.inl ⟨rfl, (Option.some.inj hd).symm⟩
    · exact Or.inr ⟨rfl, (Option.some.inj hd).symm⟩
theorem dec_some (l h : Bool) (o u q : Nat) : (decO l h o u q).isSome = (l || h) := by
  unfold decO
  cases l <;> cases h <;> simp
  split <;> rfl
theorem wB_yes {m n D : Nat} {ev : Bool} (h : wB m n D ev = true) : m ≤ n * D ∧ (ev = false → m < n * D) := by
  unfold wB at h
  simp only [Bool.or_eq_true, Bool.and_eq_true, decide_eq_true_eq] at h
  rcases h with h | ⟨h1, h2⟩
  · exact ⟨by omega, fun _ => h⟩
  · exact ⟨by omega, fun h3 => by rw [h2] at h3; cases h3⟩
theorem wB_no {m n D : Nat} {ev : Bool} (h : wB m n D ev = false) : n * D ≤ m := by
  unfold wB at h
  simp only [Bool.or_eq_false_iff, decide_eq_false_iff_not] at h
  omega
/-- Which decimal is told is in the room. -/
theorem dec_room (A B C D N J d : Nat) (ev : Bool) (hD : 0 < D * N) (h : decO (wB (A * J % (D * N)) B J ev) (wB (D * N - A * J % (D * N)) C J ev) (A * J % (D * N)) (D * N - A * J % (D * N)) (A * J / (D * N)) = some d) :
    A * J ≤ d * (D * N) + B * J ∧ d * (D * N) ≤ A * J + C * J ∧ (ev = false → (A * J < d * (D * N) + B * J ∨ A * J ≤ d * (D * N)) ∧ (d * (D * N) < A * J + C * J ∨ d * (D * N) ≤ A * J)) := by
  have hdm := Nat.div_add_mod (A * J) (D * N)
  have hlt := Nat.mod_lt (A * J) hD
  rw [Nat.mul_comm] at hdm
  have hc := dec_cases _ _ _ _ _ _ h
  clear h
  generalize A * J = X at *
  generalize D * N = U at *
  generalize X % U = o at *
  generalize X / U = q at *
  have e1 : (q + 1) * U = q * U + U := Nat.succ_mul _ _
  rcases hc with ⟨h1, rfl⟩ | ⟨h1, rfl⟩
  · obtain ⟨h2, h3⟩ := wB_yes h1
    generalize B * J = Y at *
    exact ⟨by omega, by omega, fun hv => ⟨Or.inl (by have := h3 hv; omega), Or.inr (by omega)⟩⟩
  · obtain ⟨h2, h3⟩ := wB_yes h1
    generalize C * J = Z at *
    exact ⟨by omega, by omega, fun hv => ⟨Or.inr (by omega), Or.inl (by have := h3 hv; omega)⟩⟩
/-- Seventeen digits are always enough. -/
theorem dec_found (P Q N J m bl : Nat) (ev : Bool) (hP : 0 < P) (hJ : 0 < J) (hU : 0 < Q * N) (hx : N * 10000000000000000 * Q ≤ P * (4 * m) * J) (hbl : (m = 4503599627370496 ∧ bl = 1) ∨ (m < 9007199254740992 ∧ bl = 2)) :
    (decO (wB (P * (4 * m) * J % (Q * N)) (P * bl) J ev) (wB (Q * N - P * (4 * m) * J % (Q * N)) (P * 2) J ev) (P * (4 * m) * J % (Q * N)) (Q * N - P * (4 * m) * J % (Q * N)) (P * (4 * m) * J / (Q * N))).isSome = true := by
  rw [dec_some]
  cases hl : wB (P * (4 * m) * J % (Q * N)) (P * bl) J ev with
  | true => rfl
  | false =>
    cases hh : wB (Q * N - P * (4 * m) * J % (Q * N)) (P * 2) J ev with
    | true => rfl
    | false =>
      exfalso
      have h1 := wB_no hl
      have h2 := wB_no hh
      have h3 := Nat.mod_lt (P * (4 * m) * J) hU
      generalize P * (4 * m) * J % (Q * N) = o at *
      have hPJ : 0 < P * J := Nat.mul_pos hP hJ
      have e1 : P * bl * J = bl * (P * J) := by simp only [Nat.mul_comm, Nat.mul_left_comm]
      have e2 : P * 2 * J = 2 * (P * J) := by simp only [Nat.mul_assoc, Nat.mul_comm, Nat.mul_left_comm]
      have e3 : P * (4 * m) * J = 4 * m * (P * J) := by simp only [Nat.mul_assoc, Nat.mul_comm, Nat.mul_left_comm]
      have e4 : N * 10000000000000000 * Q = 10000000000000000 * (Q * N) := by simp only [Nat.mul_assoc, Nat.mul_comm]
      rw [e1] at h1
      rw [e2] at h2
      rw [e3, e4] at hx
      generalize P * J = R at *
      generalize Q * N = U at *
      rcases hbl with ⟨rfl, rfl⟩ | ⟨hm, rfl⟩
      · omega
      · have h4 := Nat.mul_le_mul_right R (show 4 * m ≤ 36028797018963964 by omega)
        omega
/-- A float's word with its sign. -/
def sgw (b : Bool) (u : Nat) : Nat := if b then u + 9223372036854775808 else u
theorem rk_sgw (b : Bool) (u : Nat) (hu : u < 9218868437227405312) : rk (sgw b u) = if b then 9223372036854775807 - u else u + 9223372036854775808 := by
  have hn : nanB (sgw b u) = false := by unfold nanB sgw; cases b <;> exact decide_eq_false (by simp; omega)
  unfold rk
  rw [hn, if_neg (show ¬ (false = true) by decide)]
  unfold sgw
  cases b
  · simp; omega
  · simp; omega
/-- A float's number in its lowest terms, against its size. -/
theorem qB_low (v : Nat) : (qB v).num.natAbs * deF v = nuF v * (qB v).den ∧ decide (qB v < 0) = (negB v && decide (nuF v ≠ 0)) := by
  have hl := Cub.low_of (qB v)
  have hE : 0 < 2 ^ eN v := Nat.two_pow_pos _
  have h1 := hl.2
  have h2 : Cub.valQ (decide (qB v < 0)) (qB v).num.natAbs (qB v).den = Cub.valQ (negB v) (mvB v * 2 ^ eP v) (2 ^ eN v) := h1
  rw [Cub.valQ_eq (qB v).den_pos hE] at h2
  have hnu : nuF v = mvB v * 2 ^ eP v := rfl
  have hde : deF v = 2 ^ eN v := by unfold deF; rw [Nat.one_mul]; rfl
  rw [← hnu, ← hde] at h2
  have hd0 := (qB v).den_pos
  have hD0 := deF_pos v
  have hs := hl.1.sign
  generalize (qB v).num.natAbs = a at *
  generalize (qB v).den = k at *
  generalize decide (qB v < 0) = c at *
  generalize nuF v = M at *
  generalize deF v = E at *
  clear h1 hl
  have hcast : ((a * E : Nat) : Int) = (a : Int) * (E : Int) := Int.natCast_mul _ _
  have hcast2 : ((M * k : Nat) : Int) = (M : Int) * (k : Int) := Int.natCast_mul _ _
  have hz : a * E = 0 → a = 0 := fun h => by rcases Nat.mul_eq_zero.1 h with h | h <;> omega
  have hz2 : M * k = 0 → M = 0 := fun h => by rcases Nat.mul_eq_zero.1 h with h | h <;> omega
  unfold Cub.sg at h2
  generalize negB v = t at *
  cases c <;> cases t <;> simp at hs
  · simp only [Bool.false_eq_true, if_false] at h2
    rw [← hcast, ← hcast2] at h2
    exact ⟨by omega, rfl⟩
  · simp only [Bool.false_eq_true, if_false, if_true] at h2
    rw [← hcast, Int.neg_mul, ← hcast2] at h2
    have h3 : a * E = 0 ∧ M * k = 0 := by omega
    have h4 := hz2 h3.2
    exact ⟨by omega, by simp [h4]⟩
  · simp only [Bool.false_eq_true, if_false, if_true] at h2
    rw [Int.neg_mul, ← hcast, ← hcast2] at h2
    have : a * E = 0 := by omega
    exact absurd (hz this) hs
  · simp only [if_true] at h2
    rw [Int.neg_mul, Int.neg_mul, ← hcast, ← hcast2] at h2
    refine ⟨by omega, ?_⟩
    have hM : M ≠ 0 := by
      intro hM
      rw [hM, Nat.zero_mul] at h2
      exact hs (hz (by omega))
    simp [hM]
theorem sgw_parts (b : Bool) (u : Nat) : nuF (sgw b u) = nuF u ∧ deF (sgw b u) = deF u := by
  have e1 : xpB (sgw b u) = xpB u := by unfold xpB sgw; cases b <;> simp; omega
  have e2 : mtB (sgw b u) = mtB u := by unfold mtB sgw; cases b <;> simp; omega
  unfold nuF deF mvB evB
  rw [e1, e2]
  exact ⟨rfl, rfl⟩
theorem neg_sgw (b : Bool) (u : Nat) (hu : u < 9218868437227405312) : negB (sgw b u) = (b && decide (0 < u)) := by
  unfold negB sgw
  cases b
  · simp; omega
  · simp
theorem cmp_eq0 (x : Int) : (some (compare x 0) == some Ordering.eq) = decide (x = 0) := by
  simp only [compare, compareOfLessAndEq]
  split
  · rw [decide_eq_false (by omega)]; rfl
  · split
    · rw [decide_eq_true (by assumption)]; rfl
    · rw [decide_eq_false (by assumption)]; rfl
theorem eq_zero (b : Nat) (h : b % 9223372036854775808 < 9218868437227405312) : (FloatKind.f64.format.order b 0 == some Ordering.eq) = decide (b % 9223372036854775808 = 0) := by
  obtain ⟨m, i, hr, hm⟩ := fin_read b h
  show ((Ieee.double.read b).order (Ieee.double.read 0) == some Ordering.eq) = _
  rw [hr, zero_read]
  generalize (b / 9223372036854775808 % 2 == 1) = s
  simp only [Ieee.Datum.order]
  have hz : ∀ k, Ieee.signed false 0 k = 0 := fun k => by simp [Ieee.signed]
  rw [hz, cmp_eq0, decide_eq_decide, ← hm]
  by_cases e : m = 0
  · subst e
    have : ∀ k, Ieee.signed s 0 k = 0 := fun k => by cases s <;> simp [Ieee.signed]
    rw [this]
    simp
  · have hp : ∀ k, 0 < m <<< k := fun k => by rw [Nat.shiftLeft_eq]; exact Nat.mul_pos (by omega) (Nat.two_pow_pos k)
    generalize (i - min i (-1074)).toNat = k
    have hk := hp k
    unfold Ieee.signed
    generalize m <<< k = q at *
    cases s
    · simp [e]; omega
    · simp [e]; omega
theorem ex_rt (b : Bool) (v : Nat) (s1 s2 : ByteArray) (hv : v < 9218868437227405312) (he : exV (sgw b v) = .tuple #[.agg #[.string s1, .string s2], .int .i64 0]) : RT s1 s2 (decide (qB (sgw b v) < 0)) (qB (sgw b v)).num.natAbs (qB (sgw b v)).den := by
  have hn : nanB (sgw b v) = false := by unfold nanB sgw; cases b <;> exact decide_eq_false (by simp; omega)
  have hi : infB (sgw b v) = false := by unfold infB sgw; cases b <;> exact decide_eq_false (by simp; omega)
  rw [exV_fin _ hn hi] at he
  generalize qB (sgw b v) = x at *
  simp only [Value.tuple.injEq, Array.mk.injEq, List.cons.injEq, Value.int.injEq, Value.agg.injEq, Value.string.injEq, true_and, and_true] at he
  obtain ⟨⟨h1, h2⟩, h3⟩ := he
  by_cases hs : Small x
  · unfold numT at h1
    unfold denT at h2
    rw [if_pos hs] at h1 h2
    exact ⟨h1.symm, h2.symm, hs.1, hs.2, (Cub.low_of x).1⟩
  · unfold errT at h3
    rw [if_neg hs] at h3
    omega
theorem sgw_lt (b : Bool) (u : Nat) (hu : u < 9218868437227405312) : sgw b u < 18446744073709551616 := by unfold sgw; split <;> omega
theorem sgw_mod (b : Bool) (u : Nat) (hu : u < 9218868437227405312) : sgw b u % 9223372036854775808 = u := by unfold sgw; split <;> omega
end Go.Proofs.YtijifpbpjinmhaaGreatDoor
