/- The statement's own num (68) and above (27): which of two right numbers is greater. -/
import Derived.Test.YtijifpbpjinmhaaGreatDoorV16
import Derived.Test.YtijifpbpjinmhaaGreatDoorV6
import Derived.Test.YtijifpbpjinmhaaGreatDoorV1
set_option maxHeartbeats 2000000
set_option maxRecDepth 100000
namespace Go.Proofs.YtijifpbpjinmhaaGreatDoor
open Go.RowKit
theorem p67 (p : Nat) (h : p < 10 ^ 600) : p < 1000000000 ^ 100 := Nat.lt_of_lt_of_le h (Nat.le_trans pow600 (Nat.pow_le_pow_right (by decide) (by decide)))
theorem p40 (e : Int) (h1 : -1100 ≤ e) (h2 : e ≤ 1100) : pU e < 1000000000 ^ 100 ∧ qU e < 1000000000 ^ 100 := ⟨b100 _ (by omega), b100 _ (by omega)⟩
theorem sc_lim (p : Nat) (e : Int) (h : p < 10 ^ 600) (h1 : -1100 ≤ e) (h2 : e ≤ 1100) : p * qU e < 1000000000 ^ 200 := bmul 1000000000 p (qU e) 100 100 200 (by decide) (p67 p h) (p40 e h1 h2).2 (by decide)
theorem nD_pos (n : Nat) : 1 ≤ Lib.nDigits n := by
  rw [← Lib.decDigits_length]
  have := Cub.dec_ne_nil n
  cases hd : Lib.decDigits n with
  | nil => exact absurd hd this
  | cons a t => simp
theorem floor_any (a1 : Option Addr) (l1 c1 : Nat) (a2 : Option Addr) (l2 c2 : Nat) (p q : Nat) (x : Int) (w : World) (hp : IsBig w (.agg #[.slice a1 l1 c1]) p) (hq : IsBig w (.agg #[.slice a2 l2 c2]) q) (htab : Tab w) (hp0 : 0 < p) (hq0 : 0 < q) (hp6 : p < 10 ^ 600) (hq6 : q < 10 ^ 600) (hz : SzInv p q x x) (hx : x ≤ 971) :
    Calls Tryz.prog 174 #[.agg #[.slice a1 l1 c1, .slice a2 l2 c2]] w fun e w' => e = .returned (.float .f64 (wd x (quo p q x))) ∧ Below w.heap.size w w' := by
  obtain ⟨dx, hdx⟩ : ∃ dx, Lib.nDigits p = dx := ⟨_, rfl⟩
  obtain ⟨dy, hdy⟩ : ∃ dy, Lib.nDigits q = dy := ⟨_, rfl⟩
  have hx1 : 1 ≤ dx := hdx ▸ nD_pos p
  have hy1 : 1 ≤ dy := hdy ▸ nD_pos q
  have hx6 : dx ≤ 600 := hdx ▸ (len600 p).2 hp6
  have hy6 : dy ≤ 600 := hdy ▸ (len600 q).2 hq6
  have ha1 : 10 ^ (dx - 1) ≤ p := hdx ▸ Cub.nDigits_ge p hp0
  have hb1 : 10 ^ (dy - 1) ≤ q := hdy ▸ Cub.nDigits_ge q hq0
  have ha2 : p < 10 ^ dx := hdx ▸ dig_hi p
  have hb2 : q < 10 ^ dy := hdy ▸ dig_hi q
  obtain ⟨b, hb⟩ : ∃ b, b = bitsN ((dx : Int) - (dy : Int) - 1) := ⟨_, rfl⟩
  obtain ⟨hf1, hf2⟩ := bits_fit p q dx dy b ha1 ha2 hb1 hb2 hx1 hy1 hx6 hy6 hb
  have hbr : -2500 ≤ b ∧ b ≤ 2500 := by rw [hb]; exact bitsN_rng _ (by omega) (by omega)
  obtain ⟨ee, hee⟩ : ∃ ee, max (b - 53) (-1074) = ee := ⟨_, rfl⟩
  have hee2 : (ee = b - 53 ∧ -1074 ≤ b - 53) ∨ (ee = -1074 ∧ b - 53 ≤ -1074) := by omega
  have heex : ee ≤ x := by
    rcases hee2 with ⟨h1, h2⟩ | ⟨h1, h2⟩
    · rcases Int.lt_or_le x ee with h3 | h3
      · exact absurd (below_mono p q (x + 53) (b - 1) (by omega) hz.hi) hf1
      · exact h3
    · have := hz.l1; omega
  have hel : -1074 ≤ ee := by omega
  obtain ⟨M, hM⟩ : ∃ M, quo p q ee = M := ⟨_, rfl⟩
  have hM62 : M < 18446744073709551616 := by
    have h1 := (quo_lt p q ee 62 hq0).2 (below_mono p q (b + 9) (ee + ((62 : Nat) : Int)) (by omega) hf2)
    rw [hM] at h1
    have h2 : (2 : Nat) ^ 62 ≤ 18446744073709551616 := by decide
    omega
  have hd0 : 0 < q * pU ee := scB_pos q ee hq0
  have hlow : ee = -1074 ∨ 9007199254740992 ≤ quo p q (ee - 1) := by
    rcases hee2 with ⟨h1, h2⟩ | ⟨h1, h2⟩
    · right
      have h3 := quo53 p q (ee - 1) hq0
      have h4 : ee - 1 + 53 = b - 1 := by omega
      rw [h4] at h3
      exact Nat.le_of_not_lt (fun h5 => hf1 (h3.1 h5))
    · exact Or.inl h1
  refine floor_walk a1 l1 c1 a2 l2 c2 p q (qU ee) (pU ee) M b ee _ w hp hq htab (by rw [beq_eq_false_iff_ne]; omega) ⟨p67 p hp6, p67 q hq6, (p40 ee (by omega) (by omega)).2, sc_lim p ee hp6 (by omega) (by omega), (p40 ee (by omega) (by omega)).1⟩ hM62 hM hd0 (by omega) (by omega) (by omega) (by rw [IntKind.wrap_i64]; omega) (by omega) (by omega) ?_ ?_ ?_
  · intro W h1 h2
    rw [hb]
    exact bits_any a1 l1 c1 a2 l2 c2 p q 100 dx dy W h1 h2 (by decide) (p67 p hp6) (p67 q hq6) hdx hdy (by omega) (by omega)
  · intro W
    have h := two_gen (-ee) (by omega) (by omega) W
    have e1 : pU (-ee) = qU ee := rfl
    have e2 : qU (-ee) = pU ee := by unfold qU pU; rw [Int.neg_neg]
    rw [e1, e2] at h
    exact h
  · intro i hi hprev W
    have hi20 : i ≤ 20 := by
      rcases hprev with h | h
      · omega
      · have := half_small M (i - 1) hM62 h; omega
    have e1 : M / 2 ^ i = quo p q (ee + (i : Int)) := by rw [← hM]; exact quo_up p q ee i
    have hs : SzInv p q (ee + (i : Int)) (ee + (i : Int)) := by
      refine sz_of p q _ hq0 (by omega) (by omega) (e1 ▸ hi) ?_
      rcases hprev with h | h
      · subst h
        rw [show ee + ((0 : Nat) : Int) = ee by omega]
        exact hlow
      · rcases Nat.eq_zero_or_pos i with h0 | h0
        · subst h0
          rw [show ee + ((0 : Nat) : Int) = ee by omega]
          exact hlow
        · right
          rw [← hM, quo_up p q ee (i - 1)] at h
          rw [show ee + (i : Int) - 1 = ee + ((i - 1 : Nat) : Int) by omega]
          exact h
    have hxe := sz_one p q _ _ hs hz
    rw [e1, hxe]
    rw [e1, hxe] at hi
    have hj := join_any (quo p q x) (x + 1074).toNat hi (by omega) W
    rw [show (((x + 1074).toNat : Nat) : Int) - 1074 = x by omega] at hj
    exact hj
theorem bestG_nil (p q : Nat) {f : Nat} : bestG p q ([] : List (LHF f)) = 0 := rfl
theorem bestG_one (p q f : Nat) (hf : f < 9218868437227405312) (h : ¬ f < 9218868437227405311) : bestG p q (seqF f hf) = bestStepG p q 0 f := by
  unfold seqF
  rw [dif_neg h]
  have := bestG_snoc p q [] (loF f hf)
  rw [bestG_nil] at this
  exact this
theorem bestG_two (p q f : Nat) (hf : f < 9218868437227405312) (h : f < 9218868437227405311) : bestG p q (seqF f hf) = bestStepG p q (bestStepG p q 0 f) (f + 1) := by
  unfold seqF
  rw [dif_pos h]
  have h1 := bestG_snoc p q [loF f hf] (hiF f h)
  have h2 := bestG_snoc p q [] (loF f hf)
  rw [bestG_nil] at h2
  rw [List.nil_append] at h2
  rw [h2] at h1
  exact h1
theorem scA_zero (x : Int) : scA 0 x = 0 := by unfold scA; exact Nat.zero_mul _
theorem nearest_core (a1 : Option Addr) (l1 c1 : Nat) (a2 : Option Addr) (l2 c2 : Nat) (p q : Nat) (x : Int) (m r : Nat) (w : World) (hp : IsBig w (.agg #[.slice a1 l1 c1]) p) (hq : IsBig w (.agg #[.slice a2 l2 c2]) q) (htab : Tab w) (hp6 : p < 10 ^ 600) (hq6 : q < 10 ^ 600)
    (hx : -1074 ≤ x) (hx2 : x ≤ 971) (hm : m < 9007199254740992) (hn : x = -1074 ∨ 4503599627370496 ≤ m) (hqr : scA p x = m * scB q x + r) (hr : r < scB q x) (hend : x = 971 → m = 9007199254740991 → r + r < scB q x)
    (HFLO : ∀ W : World, IsBig W (.agg #[.slice a1 l1 c1]) p → IsBig W (.agg #[.slice a2 l2 c2]) q → Tab W → Calls Tryz.prog 174 #[.agg #[.slice a1 l1 c1, .slice a2 l2 c2]] W fun e w' => e = .returned (.float .f64 (wd x m)) ∧ Below W.heap.size W w') :
    Calls Tryz.prog 76 #[.agg #[.slice a1 l1 c1, .slice a2 l2 c2]] w fun e w' => e = .returned (.float .f64 (wd x (rndB m r (scB q x)))) ∧ Below w.heap.size w w' := by
  have hf : wd x m < 9218868437227405312 := by unfold wd; omega
  refine nearest_g a1 l1 c1 a2 l2 c2 p q (wd x m) _ hf w hp hq htab (p67 p hp6) (p67 q hq6) HFLO ?_
  have hb1 := best_first p q x m r hx hx2 hm hn hqr hr
  by_cases hmx : wd x m < 9218868437227405311
  · rw [bestG_two p q _ hf hmx, hb1, wd_succ]
    exact best_second p q x m r hx hx2 hm hn hqr hr (by intro h; subst h; unfold wd at hmx; omega)
  · rw [bestG_one p q _ hf hmx, hb1]
    have h1 : x = 971 ∧ m = 9007199254740991 := by unfold wd at hmx; omega
    have h2 := hend h1.1 h1.2
    have e : rndB m r (scB q x) = m := by unfold rndB; rw [if_neg (by omega)]
    rw [e]
theorem nearest_pos (a1 : Option Addr) (l1 c1 : Nat) (a2 : Option Addr) (l2 c2 : Nat) (p q T : Nat) (x : Int) (w : World) (hp : IsBig w (.agg #[.slice a1 l1 c1]) p) (hq : IsBig w (.agg #[.slice a2 l2 c2]) q) (htab : Tab w) (hp0 : 0 < p) (hq0 : 0 < q) (hp6 : p < 10 ^ 600) (hq6 : q < 10 ^ 600) (hz : SzInv p q x x) (hT : T = 970) (h : p < 18014398509481983 * (q * 2 ^ T)) :
    Calls Tryz.prog 76 #[.agg #[.slice a1 l1 c1, .slice a2 l2 c2]] w fun e w' => e = .returned (.float .f64 (wd x (rndB (quo p q x) (scA p x % scB q x) (scB q x)))) ∧ Below w.heap.size w w' := by
  have hm : scA p x = quo p q x * scB q x + scA p x % scB q x := by unfold quo; rw [Nat.mul_comm]; exact (Nat.div_add_mod _ _).symm
  have hf := fin_facts p q T x _ _ hT hq0 hz hm h
  exact nearest_core a1 l1 c1 a2 l2 c2 p q x _ _ w hp hq htab hp6 hq6 hz.l1 hf.1 ((quo53 p q x hq0).2 hz.hi) (sz_lo p q x hq0 hz) hm (Nat.mod_lt _ (scB_pos q x hq0)) hf.2 (fun W h1 h2 h3 => floor_any a1 l1 c1 a2 l2 c2 p q x W h1 h2 h3 hp0 hq0 hp6 hq6 hz hf.1)
theorem pos600 : 0 < 10 ^ 600 := by
  obtain ⟨K, hK⟩ : ∃ K, K = 600 := ⟨_, rfl⟩
  rw [← hK]
  exact Nat.pow_pos (by decide)
theorem nearest_zero (a1 : Option Addr) (l1 c1 : Nat) (a2 : Option Addr) (l2 c2 : Nat) (q : Nat) (w : World) (hp : IsBig w (.agg #[.slice a1 l1 c1]) 0) (hq : IsBig w (.agg #[.slice a2 l2 c2]) q) (htab : Tab w) (hq0 : 0 < q) (hq6 : q < 10 ^ 600) :
    Calls Tryz.prog 76 #[.agg #[.slice a1 l1 c1, .slice a2 l2 c2]] w fun e w' => e = .returned (.float .f64 0) ∧ Below w.heap.size w w' := by
  have hb := scB_pos q (-1074) hq0
  have e0 : wd (-1074) 0 = 0 := by unfold wd; decide
  have h := nearest_core a1 l1 c1 a2 l2 c2 0 q (-1074) 0 0 w hp hq htab pos600 hq6 (by decide) (by decide) (by decide) (Or.inl rfl) (by rw [scA_zero, Nat.zero_mul]) hb (fun h => by omega) (fun W h1 h2 h3 => by rw [e0]; exact floor_zero a1 l1 c1 a2 l2 c2 W h1)
  have e : rndB 0 0 (scB q (-1074)) = 0 := by unfold rndB; rw [if_neg (by omega)]
  rwa [e, e0] at h
theorem sz_600 (n d : Nat) (hn : n < 10 ^ 600) (hd : 0 < d) : ∃ x, SzInv n d x x := by
  obtain ⟨K, hK⟩ : ∃ K, K = 600 := ⟨_, rfl⟩
  have hp6 := pow600_two K (4 * K + 1) rfl
  rw [← hK] at hn
  refine sz_ex n d ?_
  unfold scA scB
  have e1 : (-(5053 : Int)).toNat = 0 := by decide
  have e2 : ((5053 : Int)).toNat = 5053 := by decide
  obtain ⟨T, hT⟩ : ∃ T, T = 5053 := ⟨_, rfl⟩
  rw [e1, e2, Nat.pow_zero, Nat.mul_one, ← hT]
  have h1 : n < 2 ^ T := Nat.lt_of_lt_of_le (Nat.lt_trans hn hp6) (Nat.pow_le_pow_right (by decide) (by omega))
  exact Nat.lt_of_lt_of_le h1 (Nat.le_mul_of_pos_left _ hd)
theorem cmp_end (n d P T : Nat) (hP : P = 2 ^ T) : (Cub.cmpN (n * (1 * 1)) (18014398509481983 * P * d) = -1 ∧ n < 18014398509481983 * (d * 2 ^ T)) ∨ (0 ≤ Cub.cmpN (n * (1 * 1)) (18014398509481983 * P * d) ∧ ¬ n < 18014398509481983 * (d * 2 ^ T)) := by
  have e : 18014398509481983 * P * d = 18014398509481983 * (d * 2 ^ T) := by rw [hP, Nat.mul_assoc, Nat.mul_comm (2 ^ T) d]
  rw [e]
  simp only [Nat.mul_one]
  generalize 18014398509481983 * (d * 2 ^ T) = E
  unfold Cub.cmpN
  by_cases h : n < E
  · rw [if_pos h]; exact Or.inl ⟨rfl, h⟩
  · rw [if_neg h]; right; refine ⟨?_, h⟩; split <;> decide
theorem word_eta (b : Nat) (hb : b < 9218868437227405312) : b = wd (evB b) (mvB b) ∧ mvB b < 9007199254740992 ∧ (evB b = -1074 ∨ 4503599627370496 ≤ mvB b) := by
  unfold wd evB mvB xpB mtB
  split <;> omega
/-- A float's size in parts of the least one. -/
def zF (T b : Nat) : Nat := mvB b * 2 ^ (evB b + (T : Int)).toNat
theorem zF_is (T b : Nat) (hT : T = 1074) (hb : b < 9218868437227405312) : nuF b * 2 ^ T = zF T b * deF b := by
  obtain ⟨h1, h2⟩ := evB_rng b hb
  unfold nuF deF zF pU qU
  rw [Nat.one_mul, Nat.mul_assoc, Nat.mul_assoc, ← Nat.pow_add, ← Nat.pow_add]
  congr 2; omega
theorem zF_wd (T : Nat) (x : Int) (m : Nat) (hT : T = 1074) (hx : -1074 ≤ x) (hx2 : x ≤ 971) (hm : m ≤ 9007199254740992) (hn : x = -1074 ∨ 4503599627370496 ≤ m) (hl : x = 971 → m < 9007199254740992) : zF T (wd x m) = m * 2 ^ (x + (T : Int)).toNat := by
  by_cases h : m < 9007199254740992
  · obtain ⟨h1, h2⟩ := wd_parts x m hx hx2 h hn
    unfold zF; rw [h1, h2]
  · have hm2 : m = 9007199254740992 := by omega
    subst hm2
    have hx3 : x ≤ 970 := by
      rcases Int.lt_or_le 970 x with h3 | h3
      · have := hl (by omega); omega
      · exact h3
    obtain ⟨h1, h2⟩ := wd_next x hx hx3
    unfold zF; rw [h1, h2]
    have e : (9007199254740992 : Nat) = 4503599627370496 * 2 := by decide
    rw [e, Nat.mul_assoc, Nat.mul_comm 2, ← Nat.pow_succ]
    congr 2; omega
theorem zF_step (T b : Nat) (hT : T = 1074) (hb : b + 1 < 9218868437227405312) : zF T b < zF T (b + 1) := by
  obtain ⟨e, h1, h2⟩ := word_eta b (by omega)
  obtain ⟨r1, r2⟩ := evB_rng b (by omega)
  generalize evB b = x at *
  generalize mvB b = m at *
  have hl : x = 971 → m + 1 < 9007199254740992 := by intro h; subst h; unfold wd at e; omega
  rw [e, wd_succ, zF_wd T x m hT r1 r2 (by omega) h2 (fun _ => h1), zF_wd T x (m + 1) hT r1 r2 (by omega) (by omega) hl]
  exact Nat.mul_lt_mul_of_pos_right (Nat.lt_succ_self m) (Nat.two_pow_pos _)
theorem zF_mono (T u v : Nat) (hT : T = 1074) (huv : u ≤ v) (hv : v < 9218868437227405312) : zF T u ≤ zF T v := by
  obtain ⟨k, rfl⟩ : ∃ k, v = u + k := ⟨v - u, by omega⟩
  clear huv
  induction k with
  | zero => exact Nat.le_refl _
  | succ k ih => exact Nat.le_trans (ih (by omega)) (Nat.le_of_lt (zF_step T (u + k) hT hv))
theorem sc_T (n d T : Nat) (x : Int) (hT : T = 1074) (hx : -1074 ≤ x) : n * 2 ^ T = scA n x * 2 ^ (T - (-x).toNat) ∧ ∀ k, k * 2 ^ (x + (T : Int)).toNat * d = k * scB d x * 2 ^ (T - (-x).toNat) := by
  refine ⟨?_, fun k => ?_⟩
  · unfold scA
    rw [Nat.mul_assoc, ← Nat.pow_add]; congr 2; omega
  · unfold scB
    have e : (x + (T : Int)).toNat = x.toNat + (T - (-x).toNat) := by omega
    rw [e, Nat.pow_add]
    simp only [Nat.mul_assoc, Nat.mul_comm, Nat.mul_left_comm]
/-- The word of the float nearest to a size. -/
def NearU (n d u : Nat) : Prop := ∃ (x : Int) (m r : Nat), -1074 ≤ x ∧ x ≤ 971 ∧ m < 9007199254740992 ∧ (x = -1074 ∨ 4503599627370496 ≤ m) ∧ scA n x = m * scB d x + r ∧ r < scB d x ∧ (x = 971 → m = 9007199254740991 → r + r < scB d x) ∧ u = wd x (rndB m r (scB d x))
theorem NearU.lt {n d u : Nat} (h : NearU n d u) : u < 9218868437227405312 := by
  obtain ⟨x, m, r, h1, h2, h3, h4, h5, h6, h7, rfl⟩ := h
  rcases rnd_in m r (scB d x) with e | e
  · rw [e]; unfold wd; omega
  · have hne : ¬ (x = 971 ∧ m = 9007199254740991) := by
      rintro ⟨e1, e2⟩
      have := h7 e1 e2
      unfold rndB at e
      rw [if_neg (by omega)] at e
      omega
    rw [e]; unfold wd; omega
theorem NearU.up {n d u T : Nat} (h : NearU n d u) (hT : T = 1074) (hu : u + 1 < 9218868437227405312) : n * 2 ^ T < zF T (u + 1) * d := by
  obtain ⟨x, m, r, h1, h2, h3, h4, h5, h6, h7, he⟩ := h
  obtain ⟨s1, s2⟩ := sc_T n d T x hT h1
  have hin := rnd_in m r (scB d x)
  have hle : wd x (m + 1) ≤ u + 1 := by
    rw [he]
    rcases hin with e | e <;> rw [e] <;> unfold wd <;> omega
  have hl : x = 971 → m + 1 < 9007199254740992 := by intro hx; subst hx; unfold wd at hle; omega
  have hz := zF_mono T _ _ hT hle hu
  rw [zF_wd T x (m + 1) hT h1 h2 (by omega) (by omega) hl] at hz
  refine Nat.lt_of_lt_of_le ?_ (Nat.mul_le_mul_right d hz)
  rw [s1, s2]
  refine Nat.mul_lt_mul_of_pos_right ?_ (Nat.two_pow_pos _)
  rw [h5, Nat.succ_mul]
  omega
theorem NearU.down {n d u T : Nat} (h : NearU n d u) (hT : T = 1074) : zF T (u - 1) * d ≤ n * 2 ^ T := by
  have hlt := h.lt
  obtain ⟨x, m, r, h1, h2, h3, h4, h5, h6, h7, he⟩ := h
  obtain ⟨s1, s2⟩ := sc_T n d T x hT h1
  have hin := rnd_in m r (scB d x)
  have hle : u - 1 ≤ wd x m := by
    rw [he]
    rcases hin with e | e <;> rw [e] <;> unfold wd <;> omega
  have hw : wd x m < 9218868437227405312 := by unfold wd; omega
  have hz := zF_mono T _ _ hT hle hw
  rw [zF_wd T x m hT h1 h2 (by omega) h4 (fun _ => h3)] at hz
  refine Nat.le_trans (Nat.mul_le_mul_right d hz) ?_
  rw [s1, s2]
  refine Nat.mul_le_mul_right _ ?_
  omega
theorem rnd_mono (m r b s c : Nat) (h : s * b ≤ r * c) (hb : 0 < b) (hc : 0 < c) : rndB m s c ≤ rndB m r b := by
  have hin := rnd_in m s c
  unfold rndB at *
  by_cases h1 : c < s + s ∨ (s + s = c ∧ m % 2 = 1)
  · have h2 : b < r + r ∨ (r + r = b ∧ m % 2 = 1) := by
      have hge : c * b ≤ (r + r) * c := by
        have e1 : (s + s) * b = s * b + s * b := Nat.add_mul _ _ _
        have e2 : (r + r) * c = r * c + r * c := Nat.add_mul _ _ _
        have e3 : c * b ≤ (s + s) * b := Nat.mul_le_mul_right b (by omega)
        omega
      rw [Nat.mul_comm c b] at hge
      have hle := Nat.le_of_mul_le_mul_right hge hc
      rcases h1 with h1 | ⟨h1, h3⟩
      · left
        have e1 : (s + s) * b = s * b + s * b := Nat.add_mul _ _ _
        have e2 : (r + r) * c = r * c + r * c := Nat.add_mul _ _ _
        have e3 : c * b < (s + s) * b := Nat.mul_lt_mul_of_pos_right h1 hb
        have e4 : b * c < (r + r) * c := by rw [Nat.mul_comm b c]; omega
        exact Nat.lt_of_mul_lt_mul_right e4
      · rcases Nat.lt_or_ge b (r + r) with h4 | h4
        · exact Or.inl h4
        · exact Or.inr ⟨by omega, h3⟩
    rw [if_pos h1, if_pos h2]
    exact Nat.le_refl _
  · rw [if_neg h1]
    split <;> omega
theorem NearU.mono {n d u k e v : Nat} (h : NearU n d u) (g : NearU k e v) (he : 0 < e) (hle : k * d ≤ n * e) : v ≤ u := by
  obtain ⟨T, hT⟩ : ∃ T, T = 1074 := ⟨_, rfl⟩
  have hu := h.lt
  have hv := g.lt
  obtain ⟨x, m, r, h1, h2, h3, h4, h5, h6, h7, eu⟩ := h
  obtain ⟨y, l, s, g1, g2, g3, g4, g5, g6, g7, ev⟩ := g
  obtain ⟨s1, s2⟩ := sc_T n d T x hT h1
  obtain ⟨t1, t2⟩ := sc_T k e T y hT g1
  have hin := rnd_in m r (scB d x)
  have gin := rnd_in l s (scB e y)
  have hwx : wd x m < 9218868437227405312 := by unfold wd; omega
  have hwy : wd y l < 9218868437227405312 := by unfold wd; omega
  have hux : wd x m ≤ u := by rw [eu]; rcases hin with a | a <;> rw [a] <;> unfold wd <;> omega
  have hvy : v ≤ wd y l + 1 := by rw [ev]; rcases gin with a | a <;> rw [a] <;> unfold wd <;> omega
  rcases Nat.lt_trichotomy (wd y l) (wd x m) with hc | hc | hc
  · omega
  · obtain ⟨p1, p2⟩ := wd_parts x m h1 h2 h3 h4
    obtain ⟨q1, q2⟩ := wd_parts y l g1 g2 g3 g4
    rw [hc] at q1 q2
    have exy : x = y := by rw [← p2, q2]
    have eml : m = l := by rw [← p1, q1]
    subst exy eml
    have hrs : s * scB d x ≤ r * scB e x := by
      have e1 : scA k x * scB d x = scB e x * (m * scB d x) + s * scB d x := by rw [g5, Nat.add_mul]; simp only [Nat.mul_assoc, Nat.mul_comm, Nat.mul_left_comm]
      have e2 : scA n x * scB e x = scB e x * (m * scB d x) + r * scB e x := by rw [h5, Nat.add_mul]; simp only [Nat.mul_assoc, Nat.mul_comm]
      have e3 : scA k x * scB d x ≤ scA n x * scB e x := by
        unfold scA scB
        have q1 : k * 2 ^ (-x).toNat * (d * 2 ^ x.toNat) = k * d * (2 ^ (-x).toNat * 2 ^ x.toNat) := by simp only [Nat.mul_assoc, Nat.mul_comm, Nat.mul_left_comm]
        have q2 : n * 2 ^ (-x).toNat * (e * 2 ^ x.toNat) = n * e * (2 ^ (-x).toNat * 2 ^ x.toNat) := by simp only [Nat.mul_assoc, Nat.mul_comm, Nat.mul_left_comm]
        rw [q1, q2]
        exact Nat.mul_le_mul_right _ hle
      omega
    have := rnd_mono m r (scB d x) s (scB e x) hrs (by omega) (by omega)
    rw [eu, ev]
    unfold wd; omega
  · exfalso
    have hst : wd x (m + 1) ≤ wd y l := by rw [← wd_succ]; omega
    have hl : x = 971 → m + 1 < 9007199254740992 := by intro hx; subst hx; unfold wd at hst hwy; omega
    have hz := zF_mono T _ _ hT hst hwy
    rw [zF_wd T x (m + 1) hT h1 h2 (by omega) (by omega) hl, zF_wd T y l hT g1 g2 (by omega) g4 (fun _ => g3)] at hz
    have a1 : n * 2 ^ T < (m + 1) * 2 ^ (x + (T : Int)).toNat * d := by
      rw [s1, s2]
      refine Nat.mul_lt_mul_of_pos_right ?_ (Nat.two_pow_pos _)
      rw [h5, Nat.succ_mul]
      omega
    have a2 : l * 2 ^ (y + (T : Int)).toNat * e ≤ k * 2 ^ T := by
      rw [t1, t2]
      exact Nat.mul_le_mul_right _ (by omega)
    generalize (m + 1) * 2 ^ (x + (T : Int)).toNat = A at *
    generalize l * 2 ^ (y + (T : Int)).toNat = B at *
    generalize 2 ^ T = P at *
    have b1 : n * P * e < A * d * e := Nat.mul_lt_mul_of_pos_right a1 he
    have b2 : B * e * d ≤ k * P * d := Nat.mul_le_mul_right d a2
    have b3 : A * d * e ≤ B * e * d := by
      have := Nat.mul_le_mul_right (d * e) hz
      have e1 : A * d * e = A * (d * e) := Nat.mul_assoc _ _ _
      have e2 : B * e * d = B * (d * e) := by rw [Nat.mul_assoc, Nat.mul_comm e d]
      omega
    have b4 : k * P * d ≤ n * P * e := by
      have := Nat.mul_le_mul_right P hle
      have e1 : k * P * d = k * d * P := Nat.mul_right_comm _ _ _
      have e2 : n * P * e = n * e * P := Nat.mul_right_comm _ _ _
      omega
    omega
theorem cmp_z (n d T v : Nat) (hT : T = 1074) (hv : v < 9218868437227405312) : Cub.cmpN (n * deF v) (nuF v * d) = Cub.cmpN (n * 2 ^ T) (zF T v * d) := by
  rw [← cmpN_mul (n * deF v) (nuF v * d) (2 ^ T) (Nat.two_pow_pos T), ← cmpN_mul (n * 2 ^ T) (zF T v * d) (deF v) (deF_pos v)]
  have e1 : n * deF v * 2 ^ T = n * 2 ^ T * deF v := Nat.mul_right_comm _ _ _
  have e2 : nuF v * d * 2 ^ T = zF T v * d * deF v := by rw [Nat.mul_right_comm, zF_is T v hT hv, Nat.mul_right_comm]
  rw [e1, e2]
theorem num_any (num den ds : ByteArray) (b : Bool) (w : World) (hm : num.size ≤ 9223372036854775807) (hneg : Spl num ds b) :
    Calls Tryz.prog 68 #[.agg #[.string num, .string den]] w fun r w' => r = .returned (.tuple #[.string ds, .bool b]) ∧ Below w.heap.size w w' := by
  obtain ⟨V, hV⟩ : ∃ V, V = w.alloc (.cells #[.string num, .string den] 23) := ⟨_, rfl⟩
  have HX : Hid (T2 V w.heap.size (.string num) (.string den)) := by rw [hV]; exact ⟨by simp [go_sem], by simp [go_sem], by simp [go_sem], by simp [go_sem]⟩
  have HB : Hid (Below w.heap.size w V) := by rw [hV]; exact (Below.refl _ _).alloc (Nat.le_refl _) _
  have HV := hide hV
  clear hV
  rcases hneg with ⟨rfl, hp, h45, hds⟩ | ⟨rfl, rfl, hp, h45⟩ | ⟨rfl, rfl, hp⟩
  · have h45' := h45 hp
    have hs' : (0 : Int) < (num.size : Int) := by omega
    have hs1 : (1 : Int) ≤ (num.size : Int) := by omega
    have HDS := hide hds
    clear hds h45
    go_enter Tryz.func68, Tryz.ntmps68
    go_upto_region 1 with fail
    rw [← unhide HV]
    clear HV
    have c0 := (unhide HX).c0; have c1 := (unhide HX).c1
    go_wp2_with fail
    go_ret2
    exact ⟨by rw [← unhide HDS]; rfl, unhide HB⟩
  · have h45' := h45 hp
    have hs' : (0 : Int) < (ds.size : Int) := by omega
    clear h45
    go_enter Tryz.func68, Tryz.ntmps68
    go_upto_region 1 with fail
    rw [← unhide HV]
    clear HV
    have c0 := (unhide HX).c0; have c1 := (unhide HX).c1
    go_wp2_with fail
    go_ret2
    exact ⟨rfl, unhide HB⟩
  · have hs' : ¬ (0 : Int) < (ds.size : Int) := by omega
    have hs2 : ds.size = 0 := hp
    go_enter Tryz.func68, Tryz.ntmps68
    go_upto_region 1 with fail
    rw [← unhide HV]
    clear HV
    have c0 := (unhide HX).c0; have c1 := (unhide HX).c1
    go_wp2_with fail
    go_ret2
    exact ⟨rfl, unhide HB⟩
/-- Of two right numbers: the first is above the second. -/
def abv (b : Bool) (n d : Nat) (c : Bool) (m e : Nat) : Bool := if (b != c) = true then c else (decide (0 < Cub.cmpN (n * e) (m * d)) && !b) || (decide (Cub.cmpN (n * e) (m * d) < 0) && b)
theorem rt_num {num den : ByteArray} {b : Bool} {n d : Nat} (h : RT num den b n d) (w : World) : Calls Tryz.prog 68 #[.agg #[.string num, .string den]] w fun r w' => r = .returned (.tuple #[.string (tx n), .bool b]) ∧ Below w.heap.size w w' := by
  have e1 : digT num = tx n := by rw [h.num, dig_sT _ _ h.hn, tx_tb _ h.hn]
  have e2 : isNeg num = b := by rw [h.num]; exact neg_sT _ _ h.hn
  have hs := spl_of num
  rw [e1, e2] at hs
  exact num_any num den (tx n) b w (by rw [h.num]; exact Nat.le_trans (sT_size b n h.hn) (by decide)) hs
theorem times600 (m n : Nat) (hm : m < 10 ^ 600) (hn : n < 10 ^ 600) (w : World) : Calls Tryz.prog 70 #[.string (tx m), .string (tx n)] w fun e w' => e = .returned (.string (tx (m * n))) ∧ Below w.heap.size w w' := by
  obtain ⟨K, hK⟩ : ∃ K, K = 600 := ⟨_, rfl⟩
  rw [← hK] at hm hn
  exact refTimesM K m n w (by omega) (by omega) hm hn
theorem above_any (n1 d1 n2 d2 : ByteArray) (b c : Bool) (n d m e : Nat) (w : World) (h : RT n1 d1 b n d) (g : RT n2 d2 c m e) :
    Calls Tryz.prog 27 #[.agg #[.string n1, .string d1], .agg #[.string n2, .string d2]] w fun r w' => r = .returned (.bool (abv b n d c m e)) ∧ Below w.heap.size w w' := by
  obtain ⟨V, hV⟩ : ∃ V, V = (w.alloc (.cells #[.string n1, .string d1] 23)).alloc (.cells #[.string n2, .string d2] 23) := ⟨_, rfl⟩
  have HX : Hid (T2 V w.heap.size (.string n1) (.string d1)) := by rw [hV]; exact ⟨by simp [go_sem], by simp [go_sem], by simp [go_sem], by simp [go_sem]⟩
  have HY : Hid (T2 V (w.heap.size + 1) (.string n2) (.string d2)) := by rw [hV]; exact ⟨by simp [go_sem], by simp [go_sem], by simp [go_sem], by simp [go_sem]⟩
  have HB : Hid (Below w.heap.size w V) := by rw [hV]; exact ((Below.refl _ _).alloc (Nat.le_refl _) _).alloc (by simp) _
  have HV := hide hV
  have H1 := hide (fun W => rt_num h W)
  have H2 := hide (fun W => rt_num g W)
  have e1 : d1 = tx d := by rw [h.den, tx_tb _ h.hd]
  have e2 : d2 = tx e := by rw [g.den, tx_tb _ g.hd]
  have HT1 := hide (times600 n e h.hn g.hd)
  have HT2 := hide (times600 m d g.hn h.hd)
  have HC := hide (fun W => refCompareM (n * e) (m * d) W)
  have HA : Hid (abv b n d c m e = if (b != c) = true then c else (decide (0 < Cub.cmpN (n * e) (m * d)) && !b) || (decide (Cub.cmpN (n * e) (m * d) < 0) && b)) := rfl
  have hk := cmp3 (n * e) (m * d)
  subst e1 e2
  clear hV h g
  generalize abv b n d c m e = A at *
  generalize hK : Cub.cmpN (n * e) (m * d) = K at *
  clear hK
  cases b <;> cases c
  · go_enter Tryz.func27, Tryz.ntmps27
    go_upto_region 1 with fail
    rw [← unhide HV]
    clear HV
    have c0 := (unhide HX).c0; have c1 := (unhide HX).c1; have y0 := (unhide HY).c0; have y1 := (unhide HY).c1
    go_upto_region 2 with (go_at_call 68; refine (unhide H1 _).mono ?_; rintro e' w1 ⟨rfl, hb⟩; have HB1 : Hid (Below w.heap.size w w1) := (unhide HB).trans (hb.mono (Nat.le_of_lt (unhide HX).lt)); have HX1 := hide ((unhide HX).later hb); have HY1 := hide ((unhide HY).later hb); clear hb HX HY HB c0 c1 y0 y1)
    have c0 := (unhide HX1).c0; have c1 := (unhide HX1).c1; have y0 := (unhide HY1).c0; have y1 := (unhide HY1).c1
    go_upto_region 4 with (go_at_call 68; refine (unhide H2 _).mono ?_; rintro e' w2 ⟨rfl, hb⟩; have HB2 : Hid (Below w.heap.size w w2) := (unhide HB1).trans (hb.mono (unhide HB1).size); have HX2 := hide ((unhide HX1).later hb); have HY2 := hide ((unhide HY1).later hb); clear hb HX1 HY1 HB1 c0 c1 y0 y1)
    have c1 := (unhide HX2).c1; have y1 := (unhide HY2).c1
    have HCC : Hid (∀ w', Below w2.heap.size w2 w' → (w'.cell? ⟨w.heap.size + 1, 1, none⟩ = some (.string (tx e)) ∧ w'.cell? ⟨w.heap.size, 1, none⟩ = some (.string (tx d)))) := fun U hb => ⟨((unhide HY2).later hb).c1, ((unhide HX2).later hb).c1⟩
    go_region_held3 (fun w' => w'.cell? ⟨w.heap.size + 1, 1, none⟩ = some (.string (tx e)) ∧ w'.cell? ⟨w.heap.size, 1, none⟩ = some (.string (tx d))) (first | assumption | (refine ⟨?_, ?_⟩ <;> assumption)) ((first
      | (go_at_call_of 70 (tx n); go_must (refine (unhide HT1 _).mono ?_; rintro e' w3 ⟨rfl, hb⟩; have HB3 := hide (((Below.refl w2.heap.size w2).drew).trans hb); clear hb c1 y1; obtain ⟨y1, c1⟩ := unhide HCC w3 (unhide HB3)))
      | (go_at_call_of 70 (tx m); go_must (refine (unhide HT2 _).mono ?_; rintro e' w4 ⟨rfl, hb⟩; have HB4 := hide ((unhide HB3).trans (hb.mono (unhide HB3).size)); clear hb c1 y1; obtain ⟨y1, c1⟩ := unhide HCC w4 (unhide HB4)))
      | (go_at_call 69; go_must (refine (unhide HC _).mono ?_; rintro e' w5 ⟨rfl, hw⟩; obtain rfl : w4 = w5 := hw.symm))))
    have HB5 : Hid (Below w.heap.size w w4) := (unhide HB2).trans ((unhide HB4).mono (unhide HB2).size)
    clear HB2 HB3 HB4 HX2 HY2 c1 y1 HCC
    rcases hk with rfl | rfl | rfl
    all_goals
      go_wp2_with fail
      go_ret
      exact ⟨by rw [unhide HA]; rfl, unhide HB5⟩
  · go_enter Tryz.func27, Tryz.ntmps27
    go_upto_region 1 with fail
    rw [← unhide HV]
    clear HV
    have c0 := (unhide HX).c0; have c1 := (unhide HX).c1; have y0 := (unhide HY).c0; have y1 := (unhide HY).c1
    go_upto_region 2 with (go_at_call 68; refine (unhide H1 _).mono ?_; rintro e' w1 ⟨rfl, hb⟩; have HB1 : Hid (Below w.heap.size w w1) := (unhide HB).trans (hb.mono (Nat.le_of_lt (unhide HX).lt)); have HX1 := hide ((unhide HX).later hb); have HY1 := hide ((unhide HY).later hb); clear hb HX HY HB c0 c1 y0 y1)
    have c0 := (unhide HX1).c0; have c1 := (unhide HX1).c1; have y0 := (unhide HY1).c0; have y1 := (unhide HY1).c1
    go_wp2_with (go_at_call 68; refine (unhide H2 _).mono ?_; rintro e' w2 ⟨rfl, hb⟩; have HB2 : Hid (Below w.heap.size w w2) := (unhide HB1).trans (hb.mono (unhide HB1).size); have HX2 := hide ((unhide HX1).later hb); have HY2 := hide ((unhide HY1).later hb); clear hb HX1 HY1 HB1 c0 c1 y0 y1)
    go_ret
    exact ⟨by rw [unhide HA]; rfl, unhide HB2⟩
  · go_enter Tryz.func27, Tryz.ntmps27
    go_upto_region 1 with fail
    rw [← unhide HV]
    clear HV
    have c0 := (unhide HX).c0; have c1 := (unhide HX).c1; have y0 := (unhide HY).c0; have y1 := (unhide HY).c1
    go_upto_region 2 with (go_at_call 68; refine (unhide H1 _).mono ?_; rintro e' w1 ⟨rfl, hb⟩; have HB1 : Hid (Below w.heap.size w w1) := (unhide HB).trans (hb.mono (Nat.le_of_lt (unhide HX).lt)); have HX1 := hide ((unhide HX).later hb); have HY1 := hide ((unhide HY).later hb); clear hb HX HY HB c0 c1 y0 y1)
    have c0 := (unhide HX1).c0; have c1 := (unhide HX1).c1; have y0 := (unhide HY1).c0; have y1 := (unhide HY1).c1
    go_wp2_with (go_at_call 68; refine (unhide H2 _).mono ?_; rintro e' w2 ⟨rfl, hb⟩; have HB2 : Hid (Below w.heap.size w w2) := (unhide HB1).trans (hb.mono (unhide HB1).size); have HX2 := hide ((unhide HX1).later hb); have HY2 := hide ((unhide HY1).later hb); clear hb HX1 HY1 HB1 c0 c1 y0 y1)
    go_ret
    exact ⟨by rw [unhide HA]; rfl, unhide HB2⟩
  · go_enter Tryz.func27, Tryz.ntmps27
    go_upto_region 1 with fail
    rw [← unhide HV]
    clear HV
    have c0 := (unhide HX).c0; have c1 := (unhide HX).c1; have y0 := (unhide HY).c0; have y1 := (unhide HY).c1
    go_upto_region 2 with (go_at_call 68; refine (unhide H1 _).mono ?_; rintro e' w1 ⟨rfl, hb⟩; have HB1 : Hid (Below w.heap.size w w1) := (unhide HB).trans (hb.mono (Nat.le_of_lt (unhide HX).lt)); have HX1 := hide ((unhide HX).later hb); have HY1 := hide ((unhide HY).later hb); clear hb HX HY HB c0 c1 y0 y1)
    have c0 := (unhide HX1).c0; have c1 := (unhide HX1).c1; have y0 := (unhide HY1).c0; have y1 := (unhide HY1).c1
    go_upto_region 4 with (go_at_call 68; refine (unhide H2 _).mono ?_; rintro e' w2 ⟨rfl, hb⟩; have HB2 : Hid (Below w.heap.size w w2) := (unhide HB1).trans (hb.mono (unhide HB1).size); have HX2 := hide ((unhide HX1).later hb); have HY2 := hide ((unhide HY1).later hb); clear hb HX1 HY1 HB1 c0 c1 y0 y1)
    have c1 := (unhide HX2).c1; have y1 := (unhide HY2).c1
    have HCC : Hid (∀ w', Below w2.heap.size w2 w' → (w'.cell? ⟨w.heap.size + 1, 1, none⟩ = some (.string (tx e)) ∧ w'.cell? ⟨w.heap.size, 1, none⟩ = some (.string (tx d)))) := fun U hb => ⟨((unhide HY2).later hb).c1, ((unhide HX2).later hb).c1⟩
    go_region_held3 (fun w' => w'.cell? ⟨w.heap.size + 1, 1, none⟩ = some (.string (tx e)) ∧ w'.cell? ⟨w.heap.size, 1, none⟩ = some (.string (tx d))) (first | assumption | (refine ⟨?_, ?_⟩ <;> assumption)) ((first
      | (go_at_call_of 70 (tx n); go_must (refine (unhide HT1 _).mono ?_; rintro e' w3 ⟨rfl, hb⟩; have HB3 := hide (((Below.refl w2.heap.size w2).drew).trans hb); clear hb c1 y1; obtain ⟨y1, c1⟩ := unhide HCC w3 (unhide HB3)))
      | (go_at_call_of 70 (tx m); go_must (refine (unhide HT2 _).mono ?_; rintro e' w4 ⟨rfl, hb⟩; have HB4 := hide ((unhide HB3).trans (hb.mono (unhide HB3).size)); clear hb c1 y1; obtain ⟨y1, c1⟩ := unhide HCC w4 (unhide HB4)))
      | (go_at_call 69; go_must (refine (unhide HC _).mono ?_; rintro e' w5 ⟨rfl, hw⟩; obtain rfl : w4 = w5 := hw.symm))))
    have HB5 : Hid (Below w.heap.size w w4) := (unhide HB2).trans ((unhide HB4).mono (unhide HB2).size)
    clear HB2 HB3 HB4 HX2 HY2 c1 y1 HCC
    rcases hk with rfl | rfl | rfl
    all_goals
      go_wp2_with fail
      go_ret
      exact ⟨by rw [unhide HA]; rfl, unhide HB5⟩
end Go.Proofs.YtijifpbpjinmhaaGreatDoor
