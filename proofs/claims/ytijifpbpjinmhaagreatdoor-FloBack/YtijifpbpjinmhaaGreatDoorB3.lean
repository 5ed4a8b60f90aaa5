/- A decimal text is a decimal. -/
import Derived.Test.YtijifpbpjinmhaaGreatDoorN5
import Derived.Test.YtijifpbpjinmhaaGreatDoorCut
import Derived.Test.YtijifpbpjinmhaaGreatDoorSt
import Derived.Test.YtijifpbpjinmhaaGreatDoorHas
import Derived.Test.YtijifpbpjinmhaaGreatDoorParseP
set_option maxHeartbeats 2000000
set_option maxRecDepth 100000
namespace Go.Proofs.YtijifpbpjinmhaaGreatDoor
open Go.RowKit
/-- A power of ten: its numerator, its denominator. -/
def tN (z : Int) : Nat := 10 ^ z.toNat
def tD (z : Int) : Nat := 10 ^ (-z).toNat
theorem tN_pos (z : Int) : 0 < tN z := Nat.pow_pos (by decide)
theorem tD_pos (z : Int) : 0 < tD z := Nat.pow_pos (by decide)
theorem t_lt (z : Int) (h1 : -800 ≤ z) (h2 : z ≤ 800) : tN z < 1000000000 ^ 100 ∧ tD z < 1000000000 ^ 100 := by
  have h0 : (10 : Nat) ^ 800 < 1000000000 ^ 100 := by decide +kernel
  exact ⟨Nat.lt_of_le_of_lt (Nat.pow_le_pow_right (by decide) (by omega)) h0, Nat.lt_of_le_of_lt (Nat.pow_le_pow_right (by decide) (by omega)) h0⟩
theorem ten_gen (z : Int) (h1 : -2900 ≤ z) (h2 : z ≤ 2900) (W : World) : Calls Tryz.prog 48 #[.int .i64 z] W fun e w' => ∃ v, e = .returned v ∧ IsSz w' v (tN z) (tD z) ∧ Below W.heap.size W w' := by
  by_cases h : 0 ≤ z
  · obtain ⟨n, rfl⟩ : ∃ n : Nat, z = (n : Int) := ⟨z.toNat, by omega⟩
    have e1 : tN (n : Int) = 1 * 10 ^ n := by unfold tN; rw [Int.toNat_natCast, Nat.one_mul]
    have e2 : tD (n : Int) = 1 := by unfold tD; rw [show (-(n : Int)).toNat = 0 by omega, Nat.pow_zero]
    rw [e1, e2]
    exact tenTo_pos n (1 * 10 ^ n) W (by omega) (fun V x hx => shift_any x 1 n 1 V hx (by decide) (by decide) (by omega))
  · obtain ⟨n, rfl, hn⟩ : ∃ n : Nat, z = -(n : Int) ∧ 0 < n := ⟨(-z).toNat, by omega, by omega⟩
    have e1 : tN (-(n : Int)) = 1 := by unfold tN; rw [show (-(n : Int)).toNat = 0 by omega, Nat.pow_zero]
    have e2 : tD (-(n : Int)) = 1 * 10 ^ n := by unfold tD; rw [show (-(-(n : Int))).toNat = n by omega, Nat.one_mul]
    rw [e1, e2]
    exact tenToN n (1 * 10 ^ n) hn (by omega) rfl W
theorem t_shift (z : Int) (i : Nat) : tN z * tD (z - (i : Int)) = 10 ^ i * tN (z - (i : Int)) * tD z := by
  unfold tN tD
  rw [← Nat.pow_add, ← Nat.pow_add, ← Nat.pow_add]
  congr 1; omega
theorem t_ge (A D : Nat) (z : Int) (i : Nat) (h : tN z * D ≤ A * tD z) : 10 ^ i * tN (z - (i : Int)) * D ≤ A * tD (z - (i : Int)) := by
  have h1 := Nat.mul_le_mul_right (tD (z - (i : Int))) h
  have e1 : tN z * D * tD (z - (i : Int)) = 10 ^ i * tN (z - (i : Int)) * D * tD z := by
    rw [Nat.mul_right_comm, t_shift, Nat.mul_right_comm]
  have e2 : A * tD z * tD (z - (i : Int)) = A * tD (z - (i : Int)) * tD z := Nat.mul_right_comm _ _ _
  rw [e1, e2] at h1
  exact Nat.le_of_mul_le_mul_right h1 (tD_pos z)
theorem t_lt' (A D : Nat) (z : Int) (i : Nat) (h : A * tD z < tN z * D) : A * tD (z - (i : Int)) < 10 ^ i * tN (z - (i : Int)) * D := by
  have h1 := Nat.mul_lt_mul_of_pos_right h (tD_pos (z - (i : Int)))
  have e1 : tN z * D * tD (z - (i : Int)) = 10 ^ i * tN (z - (i : Int)) * D * tD z := by
    rw [Nat.mul_right_comm, t_shift, Nat.mul_right_comm]
  have e2 : A * tD z * tD (z - (i : Int)) = A * tD (z - (i : Int)) * tD z := Nat.mul_right_comm _ _ _
  rw [e1, e2] at h1
  exact Nat.lt_of_mul_lt_mul_right h1
/-- The exponent that places tells. -/
theorem places_is (A D dA dD : Nat) (n0 c n : Int) (ha1 : 10 ^ (dA - 1) ≤ A) (ha2 : A < 10 ^ dA) (hb1 : 10 ^ (dD - 1) ≤ D) (hb2 : D < 10 ^ dD) (h1 : 1 ≤ dA) (h2 : 1 ≤ dD) (hn0 : (dA : Int) - (dD : Int) = n0) (hc : Cub.cmpN (A * tD n0) (tN n0 * D) = c) (hn : (c < 0 ∧ n = n0) ∨ (¬ c < 0 ∧ n = n0 + 1)) :
    tN (n - 1) * D ≤ A * tD (n - 1) ∧ A * tD n < tN n * D := by
  have hlo : tN (n0 - 1) * D ≤ A * tD (n0 - 1) := by
    have e1 : 10 ^ dD * tN (n0 - 1) = 10 ^ (dA - 1) * tD (n0 - 1) := by unfold tN tD; rw [← Nat.pow_add, ← Nat.pow_add]; congr 1; omega
    calc tN (n0 - 1) * D ≤ tN (n0 - 1) * 10 ^ dD := Nat.mul_le_mul_left _ (Nat.le_of_lt hb2)
      _ = 10 ^ (dA - 1) * tD (n0 - 1) := by rw [Nat.mul_comm, e1]
      _ ≤ A * tD (n0 - 1) := Nat.mul_le_mul_right _ ha1
  have hhi : A * tD (n0 + 1) < tN (n0 + 1) * D := by
    have e1 : 10 ^ dA * tD (n0 + 1) = tN (n0 + 1) * 10 ^ (dD - 1) := by unfold tN tD; rw [← Nat.pow_add, ← Nat.pow_add]; congr 1; omega
    calc A * tD (n0 + 1) < 10 ^ dA * tD (n0 + 1) := Nat.mul_lt_mul_of_pos_right ha2 (tD_pos _)
      _ = tN (n0 + 1) * 10 ^ (dD - 1) := e1
      _ ≤ tN (n0 + 1) * D := Nat.mul_le_mul_left _ hb1
  unfold Cub.cmpN at hc
  rcases hn with ⟨h3, rfl⟩ | ⟨h3, rfl⟩
  · refine ⟨hlo, ?_⟩
    rcases Nat.lt_or_ge (A * tD n) (tN n * D) with h4 | h4
    · exact h4
    · rw [if_neg (by omega)] at hc
      split at hc <;> omega
  · refine ⟨?_, hhi⟩
    rw [show n0 + 1 - 1 = n0 by omega]
    rcases Nat.lt_or_ge (A * tD n0) (tN n0 * D) with h4 | h4
    · rw [if_pos h4] at hc; omega
    · exact h4
def blF (u : Nat) : Nat := if mvB u = 4503599627370496 ∧ -1074 < evB u then 1 else 2
def aF (u : Nat) : Nat := pU (evB u - 2) * (4 * mvB u)
def dF (u : Nat) : Nat := qU (evB u - 2)
def evF (u : Nat) : Bool := ((mvB u % 2 : Nat) : Int) == 0
/-- The decimal of so many digits that is told for a float. -/
def foF (u : Nat) (n : Int) (j : Nat) : Option Nat :=
  if j ≤ 17 then decO (wB (aF u * tD (n - j) % (dF u * tN (n - j))) (pU (evB u - 2) * blF u) (tD (n - j)) (evF u)) (wB (dF u * tN (n - j) - aF u * tD (n - j) % (dF u * tN (n - j))) (pU (evB u - 2) * 2) (tD (n - j)) (evF u)) (aF u * tD (n - j) % (dF u * tN (n - j))) (dF u * tN (n - j) - aF u * tD (n - j) % (dF u * tN (n - j))) (aF u * tD (n - j) / (dF u * tN (n - j))) else none
theorem blF_is (u : Nat) : (mvB u = 4503599627370496 ∧ -1074 < evB u ∧ blF u = 1) ∨ (¬ (mvB u = 4503599627370496 ∧ -1074 < evB u) ∧ blF u = 2) := by
  unfold blF
  split
  · rename_i h; exact Or.inl ⟨h.1, h.2, rfl⟩
  · rename_i h; exact Or.inr ⟨h, rfl⟩
theorem mv_pos (u : Nat) (h0 : 0 < u) (hu : u < 9218868437227405312) : 0 < mvB u := by
  unfold mvB xpB mtB; split <;> omega
/-- What decimal tells has the float as its nearest one. -/
theorem fo_near (u : Nat) (n : Int) (j d : Nat) (h0 : 0 < u) (hu : u < 9218868437227405312) (h : foF u n j = some d) : NearU (d * tN (n - j)) (tD (n - j)) u := by
  unfold foF at h
  split at h
  · obtain ⟨r1, r2, r3⟩ := dec_room _ _ _ _ _ _ _ _ (Nat.mul_pos (qU_pos _) (tN_pos _)) h
    obtain ⟨e, hm, hn⟩ := word_eta u hu
    obtain ⟨e1, e2⟩ := evB_rng u hu
    have hm0 := mv_pos u h0 hu
    have hbl := blF_is u
    have hev : mvB u % 2 = 1 → evF u = false := by intro h1; unfold evF; rw [h1]; rfl
    have hb2 : 0 < blF u ∧ blF u ≤ 2 := by rcases hbl with ⟨_, _, h⟩ | ⟨_, h⟩ <;> rw [h] <;> decide
    simp only [aF] at r1 r2 r3
    try simp only [dF] at r1 r2 r3
    generalize tN (n - j) = N at *
    have hJ := tD_pos (n - j)
    generalize tD (n - j) = J at *
    generalize mvB u = m at *
    generalize evB u = x at *
    generalize evF u = ev at *
    have a1 : d * (qU (x - 2) * N) = d * N * qU (x - 2) := by simp only [Nat.mul_assoc, Nat.mul_comm]
    have a2 : pU (x - 2) * (4 * m) * J = pU (x - 2) * (4 * m - blF u) * J + pU (x - 2) * blF u * J := by
      rw [← Nat.add_mul, ← Nat.mul_add]; congr 2; omega
    have a3 : pU (x - 2) * (4 * m + 2) * J = pU (x - 2) * (4 * m) * J + pU (x - 2) * 2 * J := by rw [← Nat.add_mul, ← Nat.mul_add]
    rw [a1] at r1 r2 r3
    rw [e]
    refine room_near (d * N) J m (blF u) x hJ e1 e2 hm0 hm hn hbl (room_lo _ _ _ _ (by omega)) (room_hi _ _ _ _ (by omega)) ?_
    intro hod
    obtain ⟨r4, r5⟩ := r3 (hev hod)
    have hs := scB_pos J x hJ
    refine ⟨?_, ?_⟩
    · rcases r4 with r4 | r4
      · exact room_lo_lt _ _ _ _ (by omega)
      · have := room_lo (d * N) J (4 * m) x r4
        refine Nat.lt_of_lt_of_le (Nat.mul_lt_mul_of_pos_right (by omega) hs) this
    · rcases r5 with r5 | r5
      · exact room_hi_lt _ _ _ _ (by omega)
      · have := room_hi (d * N) J (4 * m) x r5
        exact Nat.lt_of_le_of_lt this (Nat.mul_lt_mul_of_pos_right (by omega) hs)
  · cases h
/-- How great what decimal tells is. -/
theorem fo_size (u : Nat) (n : Int) (j d : Nat) (hj : 1 ≤ j) (hx1 : tN (n - 1) * dF u ≤ aF u * tD (n - 1)) (hx2 : aF u * tD n < tN n * dF u) (h : foF u n j = some d) : 10 ^ (j - 1) ≤ d ∧ d ≤ 10 ^ j := by
  have hU : 0 < dF u * tN (n - j) := Nat.mul_pos (qU_pos _) (tN_pos _)
  have b1 := t_ge (aF u) (dF u) (n - 1) (j - 1) hx1
  have b2 := t_lt' (aF u) (dF u) n j hx2
  rw [show n - 1 - ((j - 1 : Nat) : Int) = n - (j : Int) by omega] at b1
  have q1 : 10 ^ (j - 1) ≤ aF u * tD (n - j) / (dF u * tN (n - j)) := by
    rw [Nat.le_div_iff_mul_le hU]
    have : 10 ^ (j - 1) * (dF u * tN (n - j)) = 10 ^ (j - 1) * tN (n - j) * dF u := by rw [Nat.mul_comm (dF u), ← Nat.mul_assoc]
    rw [this]; exact b1
  have q2 : aF u * tD (n - j) / (dF u * tN (n - j)) < 10 ^ j := by
    rw [Nat.div_lt_iff_lt_mul hU]
    have : 10 ^ j * (dF u * tN (n - j)) = 10 ^ j * tN (n - j) * dF u := by rw [Nat.mul_comm (dF u), ← Nat.mul_assoc]
    rw [this]; exact b2
  unfold foF at h
  split at h
  · rcases dec_cases _ _ _ _ _ _ h with ⟨_, rfl⟩ | ⟨_, rfl⟩ <;> omega
  · cases h
theorem fo_17 (u : Nat) (n : Int) (hx1 : tN (n - 1) * dF u ≤ aF u * tD (n - 1)) : (foF u n 17).isSome = true := by
  have b1 := t_ge (aF u) (dF u) (n - 1) 16 hx1
  rw [show n - 1 - ((16 : Nat) : Int) = n - ((17 : Nat) : Int) by omega, show (10 : Nat) ^ 16 = 10000000000000000 by decide] at b1
  have hm := mvB_lt u
  have hbl := blF_is u
  unfold foF
  rw [if_pos (by decide)]
  unfold aF dF at b1 ⊢
  refine dec_found _ _ _ _ _ _ _ (pU_pos _) (tD_pos _) (Nat.mul_pos (qU_pos _) (tN_pos _)) ?_ ?_
  · rw [Nat.mul_comm (tN _) 10000000000000000]; exact b1
  · rcases hbl with ⟨h1, _, h2⟩ | ⟨_, h2⟩
    · exact Or.inl ⟨h1, h2⟩
    · exact Or.inr ⟨hm, h2⟩
theorem NearU.below_end {n d u T : Nat} (h : NearU n d u) (hT : T = 970) (hd : 0 < d) : n < 18014398509481983 * (d * 2 ^ T) := by
  obtain ⟨x, m, r, h1, h2, h3, h4, h5, h6, h7, _⟩ := h
  have hG : 0 < d * 2 ^ T := Nat.mul_pos hd (Nat.two_pow_pos T)
  have h53 : (2 : Nat) ^ 53 = 9007199254740992 := by decide
  rcases Int.lt_or_le x 971 with hx | hx
  · have hq : quo n d x < 9007199254740992 := by
      unfold quo
      rw [Nat.div_lt_iff_lt_mul (scB_pos d x hd), h5]
      have := Nat.mul_le_mul_right (scB d x) (show m + 1 ≤ 9007199254740992 by omega)
      rw [Nat.succ_mul] at this
      omega
    have h8 := below_mono n d (x + 53) (970 + 53) (by omega) ((quo53 n d x hd).1 hq)
    have e : (970 : Int) + 53 = (T : Int) + ((53 : Nat) : Int) := by omega
    rw [e, (sc_end n d T 53).1, (sc_end n d T 53).2, h53] at h8
    generalize d * 2 ^ T = G at *
    omega
  · have hx2 : x = 971 := by omega
    subst hx2
    have e : (971 : Int) = (T : Int) + ((1 : Nat) : Int) := by omega
    have h9 := h7 rfl
    rw [e, (sc_end n d T 1).1, (sc_end n d T 1).2] at h5
    rw [e, (sc_end n d T 1).2] at h6 h9
    generalize d * 2 ^ T = G at *
    rw [Nat.pow_one] at *
    by_cases hm : m = 9007199254740991
    · subst hm
      have := h9 rfl
      omega
    · have := Nat.mul_le_mul_right (G * 2) (show m ≤ 9007199254740990 by omega)
      omega
theorem near_zero0 (d : Nat) (hd : 0 < d) : NearU 0 d 0 := by
  have hb := scB_pos d (-1074) hd
  refine ⟨-1074, 0, 0, by decide, by decide, by decide, Or.inl rfl, by rw [scA_zero, Nat.zero_mul], hb, fun h => by omega, ?_⟩
  have e0 : wd (-1074) 0 = 0 := by unfold wd; decide
  have e : rndB 0 0 (scB d (-1074)) = 0 := by unfold rndB; rw [if_neg (by omega)]
  rw [e, e0]
theorem NearU.one {n d u v : Nat} (h : NearU n d u) (g : NearU n d v) (hd : 0 < d) : u = v := by
  have h1 := h.mono g hd (Nat.le_refl _)
  have h2 := g.mono h hd (Nat.le_refl _)
  omega
/-- Two fractions of one value have one nearest float. -/
theorem NearU.same {n d u k e v : Nat} (h : NearU n d u) (g : NearU k e v) (hd : 0 < d) (he : 0 < e) (hv : n * e = k * d) : u = v := by
  have h1 := h.mono g he (by omega)
  have h2 := g.mono h hd (by omega)
  omega
theorem near_pos (n d : Nat) (T : Nat) (x : Int) (hd0 : 0 < d) (hz : SzInv n d x x) (hT : T = 970) (hlt : n < 18014398509481983 * (d * 2 ^ T)) : NearU n d (wd x (rndB (quo n d x) (scA n x % scB d x) (scB d x))) := by
  have hm : scA n x = quo n d x * scB d x + scA n x % scB d x := by unfold quo; rw [Nat.mul_comm]; exact (Nat.div_add_mod _ _).symm
  have hf := fin_facts n d T x _ _ hT hd0 hz hm hlt
  exact ⟨x, quo n d x, scA n x % scB d x, hz.l1, hf.1, (quo53 n d x hd0).2 hz.hi, sz_lo n d x hd0 hz, hm, Nat.mod_lt _ (scB_pos d x hd0), hf.2, rfl⟩
/-- nearestTo answers the nearest float, where there is one. -/
theorem toAns_near (b : Bool) (n d u : Nat) (hn : n < 10 ^ 600) (hd : d < 10 ^ 600) (hd0 : 0 < d) (h : NearU n d u) : ToAns b n d (sgw b u) 0 := by
  obtain ⟨T, hT⟩ : ∃ T, T = 970 := ⟨_, rfl⟩
  have hP : P970 = 2 ^ T := by rw [hT]; exact P970_is.symm
  have hlt := h.below_end hT hd0
  have hu := h.lt
  rcases cmp_end n d P970 T hP with ⟨hc, _⟩ | ⟨_, hno⟩
  · intro a1 l1 c1 a2 l2 c2 W h1 h2 h3
    refine nearestTo_fin a1 l1 c1 a2 l2 c2 b n d u W h1 h2 hn hd h3 hc (fun V g1 g2 g3 => ?_) (by omega)
    rcases Nat.eq_zero_or_pos n with h0 | h0
    · subst h0
      rw [h.one (near_zero0 d hd0) hd0]
      exact nearest_zero a1 l1 c1 a2 l2 c2 d V g1 g2 g3 hd0 hd
    · obtain ⟨x, hz⟩ := sz_600 n d hn hd0
      rw [h.one (near_pos n d T x hd0 hz hT hlt) hd0]
      exact nearest_pos a1 l1 c1 a2 l2 c2 n d T x V g1 g2 g3 h0 hd0 hn hd hz hT hlt
  · exact absurd hlt hno
/-- A float is the one nearest to its own number. -/
theorem exact_near (u n d : Nat) (hu : u < 9218868437227405312) (hd : 0 < d) (h : n * deF u = nuF u * d) : NearU n d u := by
  obtain ⟨e, h1, h2⟩ := word_eta u hu
  obtain ⟨r1, r2⟩ := evB_rng u hu
  have hs := scB_pos d (evB u) hd
  refine ⟨evB u, mvB u, 0, r1, r2, h1, h2, ?_, hs, fun _ _ => by omega, ?_⟩
  · rw [Nat.add_zero]
    unfold deF nuF at h
    rw [Nat.one_mul] at h
    show n * qU (evB u) = mvB u * (d * pU (evB u))
    rw [h, Nat.mul_assoc, Nat.mul_comm (pU _) d]
  · have er : rndB (mvB u) 0 (scB d (evB u)) = mvB u := by unfold rndB; rw [if_neg (by omega)]
    rw [er]; exact e
/-- Near of what Exact answers. -/
theorem near_exact (b : Bool) (u : Nat) (s1 s2 : ByteArray) (hu : u < 9218868437227405312) (he : exV (sgw b u) = .tuple #[.agg #[.string s1, .string s2], .int .i64 0]) (W : World) (hW : Tab W) :
    Calls Tryz.prog 10 #[.agg #[.string s1, .string s2]] W fun r w' => r = .returned (.tuple #[.float .f64 (if u = 0 then 0 else sgw b u), .int .i64 0]) ∧ Below W.heap.size W w' := by
  have ht := ex_rt b u s1 s2 hu he
  have hq := qB_low (sgw b u)
  rw [(sgw_parts b u).1, (sgw_parts b u).2, neg_sgw b u hu] at hq
  have hN := exact_near u _ _ hu (qB (sgw b u)).den_pos hq.1
  have hA := toAns_near (decide (qB (sgw b u) < 0)) _ _ u ht.hn ht.hd (qB (sgw b u)).den_pos hN
  have e : sgw (decide (qB (sgw b u) < 0)) u = if u = 0 then 0 else sgw b u := by
    rw [hq.2]
    by_cases h0 : u = 0
    · subst h0; rw [if_pos rfl]; simp [sgw]
    · rw [if_neg h0]
      have hnz : nuF u ≠ 0 := by
        have := mv_pos u (by omega) hu
        exact Nat.pos_iff_ne_zero.1 (Nat.mul_pos this (pU_pos _))
      have : (b && decide (0 < u) && decide (nuF u ≠ 0)) = b := by simp [hnz]; omega
      rw [this]
  rw [e] at hA
  exact near_ok s1 s2 _ _ _ _ 0 W ht hW hA
theorem get_sh (P R : ByteArray) (j : Nat) (h : j < R.size) (h' : P.size + j < (P ++ R).size) : (P ++ R)[P.size + j]'h' = R[j] := by
  simp [ByteArray.getElem_eq_getElem_data, ByteArray.data_append]
theorem has_sh (P R : ByteArray) (j : Nat) (L : List UInt8) : has (P ++ R) (P.size + j) L = has R j L := by
  unfold has
  by_cases h : j < R.size
  · have h' : P.size + j < (P ++ R).size := by rw [ByteArray.size_append]; omega
    rw [dif_pos h, dif_pos h', get_sh P R j h h']
  · rw [dif_neg h, dif_neg (by rw [ByteArray.size_append]; omega)]
theorem dE_sh (P R : ByteArray) (j : Nat) (hj : j ≤ R.size) : dE (P ++ R) (P.size + j) = P.size + dE R j := by
  obtain ⟨h1, h2, h3, h4⟩ := dE_end R _ j rfl hj
  have hs : (P ++ R).size = P.size + R.size := ByteArray.size_append
  refine (dE_end (P ++ R) _ (P.size + j) rfl (by omega)).det ⟨by omega, by omega, ?_, ?_⟩
  · intro i hi i1 i2
    obtain ⟨k, rfl⟩ : ∃ k, i = P.size + k := ⟨i - P.size, by omega⟩
    rw [get_sh P R k (by omega) hi]
    exact h3 k (by omega) (by omega) (by omega)
  · intro h
    rw [get_sh P R _ (by omega) h]
    exact h4 (by omega)
theorem extract_sh (P R : ByteArray) (i j : Nat) : (P ++ R).extract (P.size + i) (P.size + j) = R.extract i j := by
  apply ByteArray.ext
  simp [ByteArray.data_extract, ByteArray.data_append, Array.extract_append]
theorem nE_sh (P R : ByteArray) (j : Nat) (hj : j ≤ R.size) : nE (P ++ R) (P.size + j) = P.size + nE R j := by
  unfold nE
  rw [if_pos (by rw [ByteArray.size_append]; omega), if_pos hj, dE_sh P R j hj]
theorem nT_sh (P R : ByteArray) (j : Nat) (hj : j ≤ R.size) : nT (P ++ R) (P.size + j) = nT R j := by
  unfold nT
  rw [if_pos (by rw [ByteArray.size_append]; omega), if_pos hj, dE_sh P R j hj, extract_sh]
/-- The text does not begin with a digit. -/
def NoDig (R : ByteArray) : Prop := ∀ h : 0 < R.size, ¬ (48 ≤ R[0].toNat ∧ R[0].toNat ≤ 57)
theorem dg_at (D : ByteArray) (hD : Dg D) (i : Nat) (h : i < D.size) : 48 ≤ D[i].toNat ∧ D[i].toNat ≤ 57 := by
  have hm : D[i] ∈ D.data.toList := by rw [ByteArray.getElem_eq_getElem_data]; exact Array.getElem_mem_toList _
  exact hD _ hm
theorem dE_dg (D R : ByteArray) (hD : Dg D) (hR : NoDig R) : dE (D ++ R) 0 = D.size := by
  have hs : (D ++ R).size = D.size + R.size := ByteArray.size_append
  refine (dE_end (D ++ R) _ 0 rfl (by omega)).det ⟨by omega, by omega, ?_, ?_⟩
  · intro i hi i1 i2
    have e : (D ++ R)[i] = D[i] := by
      simp only [ByteArray.getElem_eq_getElem_data, ByteArray.data_append]
      exact Array.getElem_append_left i2
    rw [e]; exact dg_at D hD i i2
  · intro h
    have := get_sh D R 0 (by omega) (by omega)
    simp only [Nat.add_zero] at this
    rw [this]; exact hR (by omega)
theorem nE_dg (D R : ByteArray) (hD : Dg D) (hR : NoDig R) : nE (D ++ R) 0 = D.size := by
  unfold nE; rw [if_pos (Nat.zero_le _), dE_dg D R hD hR]
theorem nT_dgs (D R : ByteArray) (hD : Dg D) (hR : NoDig R) : nT (D ++ R) 0 = D := by
  unfold nT; rw [if_pos (Nat.zero_le _), dE_dg D R hD hR]
  apply ByteArray.ext
  simp [ByteArray.data_extract, ByteArray.data_append, Array.extract_append]
theorem noDig_nil : NoDig ⟨#[]⟩ := fun h => absurd h (by decide)
theorem noDig_cons (c : UInt8) (R : ByteArray) (hc : ¬ (48 ≤ c.toNat ∧ c.toNat ≤ 57)) : NoDig (⟨#[c]⟩ ++ R) := by
  intro h
  have e : (⟨#[c]⟩ ++ R : ByteArray)[0] = c := by simp [ByteArray.getElem_eq_getElem_data, ByteArray.data_append]
  rw [e]; exact hc
theorem has_cons (c : UInt8) (R : ByteArray) (L : List UInt8) : has (⟨#[c]⟩ ++ R) 0 L = decide (0 ≤ Lib.indexByte L c) := by
  have h : 0 < (⟨#[c]⟩ ++ R : ByteArray).size := by rw [ByteArray.size_append]; have : (⟨#[c]⟩ : ByteArray).size = 1 := rfl; omega
  unfold has; rw [dif_pos h]
  have e : (⟨#[c]⟩ ++ R : ByteArray)[0] = c := by simp [ByteArray.getElem_eq_getElem_data, ByteArray.data_append]
  rw [e]
theorem has_nil (j : Nat) (L : List UInt8) : has ⟨#[]⟩ j L = false := by unfold has; rw [dif_neg (by show ¬ j < 0; omega)]
theorem has_dg (D R : ByteArray) (hD : Dg D) (h0 : 0 < D.size) : has (D ++ R) 0 [45] = false := by
  have h : 0 < (D ++ R).size := by rw [ByteArray.size_append]; omega
  rw [has_one _ _ _ h]
  have e : (D ++ R)[0] = D[0] := by
    simp only [ByteArray.getElem_eq_getElem_data, ByteArray.data_append]
    exact Array.getElem_append_left h0
  rw [e]
  have := dg_at D hD 0 h0
  exact decide_eq_false (fun h => by rw [h] at this; exact absurd this (by decide))
def sgn (b : Bool) : ByteArray := if b then ⟨#[45]⟩ else ⟨#[]⟩
def ptt (pt : Bool) (B : ByteArray) : ByteArray := if pt then ⟨#[46]⟩ ++ B else ⟨#[]⟩
def ext (ex dn : Bool) (X : ByteArray) : ByteArray := if ex then ⟨#[101]⟩ ++ (⟨#[if dn then 45 else 43]⟩ ++ X) else ⟨#[]⟩
/-- A decimal's text, of its parts. -/
def deT (b pt ex dn : Bool) (A B X : ByteArray) : ByteArray := sgn b ++ (A ++ (ptt pt B ++ ext ex dn X))
theorem size_one (c : UInt8) : (⟨#[c]⟩ : ByteArray).size = 1 := rfl
theorem size_nil : (⟨#[]⟩ : ByteArray).size = 0 := rfl
theorem ba_nil (R : ByteArray) : R ++ ⟨#[]⟩ = R := by apply ByteArray.ext; simp [ByteArray.data_append]
theorem nil_ba (R : ByteArray) : (⟨#[]⟩ : ByteArray) ++ R = R := by apply ByteArray.ext; simp [ByteArray.data_append]
theorem noDig_ext (ex dn : Bool) (X : ByteArray) : NoDig (ext ex dn X) := by
  unfold ext; cases ex
  · exact noDig_nil
  · exact noDig_cons 101 _ (by decide)
theorem noDig_rest (pt ex dn : Bool) (B X : ByteArray) : NoDig (ptt pt B ++ ext ex dn X) := by
  unfold ptt; cases pt
  · rw [if_neg (by decide), nil_ba]; exact noDig_ext ex dn X
  · rw [if_pos rfl, ByteArray.append_assoc]; exact noDig_cons 46 _ (by decide)
theorem has_rest (pt ex dn : Bool) (B X : ByteArray) : has (ptt pt B ++ ext ex dn X) 0 [47] = false ∧ has (ptt pt B ++ ext ex dn X) 0 [46] = pt := by
  unfold ptt; cases pt
  · rw [if_neg (by decide), nil_ba]; unfold ext; cases ex
    · exact ⟨has_nil _ _, has_nil _ _⟩
    · exact ⟨by rw [if_pos rfl, has_cons]; decide, by rw [if_pos rfl, has_cons]; decide⟩
  · rw [if_pos rfl, ByteArray.append_assoc]
    exact ⟨by rw [has_cons]; decide, by rw [has_cons]; decide⟩
theorem has_ext (ex dn : Bool) (X : ByteArray) : has (ext ex dn X) 0 [101, 69] = ex := by
  unfold ext; cases ex
  · exact has_nil _ _
  · rw [if_pos rfl, has_cons]; decide
/-- What rat's cut makes of a decimal text. -/
theorem ratCut_deT (b pt ex dn : Bool) (A B X : ByteArray) (hA : Dg A) (hA0 : 0 < A.size) (hB : Dg B) (hB0 : pt = true → 0 < B.size) (hX : Dg X) (hX0 : ex = true → 0 < X.size) :
    ratCut (deT b pt ex dn A B X) = .tuple #[partsV b A (if pt then B else ⟨#[]⟩) (if ex then X else ⟨#[]⟩) (ex && dn) ⟨#[]⟩ 0, .int .i64 (-1)] := by
  obtain ⟨s, hs⟩ : ∃ s, deT b pt ex dn A B X = s := ⟨_, rfl⟩
  rw [hs]
  obtain ⟨R1, hR1⟩ : ∃ R, ptt pt B ++ ext ex dn X = R := ⟨_, rfl⟩
  have e0 : s = sgn b ++ (A ++ R1) := by rw [← hs, ← hR1]; rfl
  have e1 : s = (sgn b ++ A) ++ R1 := by rw [e0, ByteArray.append_assoc]
  obtain ⟨P3, hP3⟩ : ∃ P, (sgn b ++ A) ++ ptt pt B = P := ⟨_, rfl⟩
  have e3 : s = P3 ++ ext ex dn X := by rw [e1, ← hR1, ← hP3]; simp only [ByteArray.append_assoc]
  have n1 : NoDig R1 := hR1 ▸ noDig_rest pt ex dn B X
  have b0 : has s 0 [45] = b := by
    rw [e0]; cases b
    · show has (⟨#[]⟩ ++ _) 0 [45] = false
      rw [nil_ba]; exact has_dg A R1 hA hA0
    · show has (⟨#[45]⟩ ++ _) 0 [45] = true
      rw [has_cons]; decide
  have qa : qcA s = (sgn b).size := by unfold qcA; rw [b0]; cases b <;> rfl
  have q1 : qc1 s = (sgn b ++ A).size := by
    unfold qc1; rw [qa, e0]
    have := nE_sh (sgn b) (A ++ R1) 0 (Nat.zero_le _)
    rw [Nat.add_zero, nE_dg A R1 hA n1] at this
    rw [this, ByteArray.size_append]
  have tA : nT s (qcA s) = A := by
    rw [qa, e0]
    have := nT_sh (sgn b) (A ++ R1) 0 (Nat.zero_le _)
    rw [Nat.add_zero, nT_dgs A R1 hA n1] at this
    exact this
  have b1 : has s (qc1 s) [47] = false ∧ has s (qc1 s) [46] = pt := by
    have h1 := has_sh (sgn b ++ A) R1 0 [47]
    have h2 := has_sh (sgn b ++ A) R1 0 [46]
    rw [Nat.add_zero, ← e1, ← q1, ← hR1] at h1 h2
    exact ⟨h1.trans (has_rest pt ex dn B X).1, h2.trans (has_rest pt ex dn B X).2⟩
  have hpt : pt = true → qc5 s = P3.size ∧ nT s (qc1 s + 1) = B := by
    intro h
    have e2 : s = ((sgn b ++ A) ++ ⟨#[46]⟩) ++ (B ++ ext ex dn X) := by
      rw [e1, ← hR1, h]; simp only [ptt, if_true, ByteArray.append_assoc]
    have z : qc1 s + 1 = ((sgn b ++ A) ++ ⟨#[46]⟩ : ByteArray).size := by rw [q1, ByteArray.size_append, ByteArray.size_append, ByteArray.size_append, size_one]
    have h5 := nE_sh ((sgn b ++ A) ++ ⟨#[46]⟩) (B ++ ext ex dn X) 0 (Nat.zero_le _)
    have h6 := nT_sh ((sgn b ++ A) ++ ⟨#[46]⟩) (B ++ ext ex dn X) 0 (Nat.zero_le _)
    rw [Nat.add_zero, ← e2, ← z] at h5 h6
    rw [nE_dg B _ hB (noDig_ext ex dn X)] at h5
    rw [nT_dgs B _ hB (noDig_ext ex dn X)] at h6
    refine ⟨?_, h6⟩
    unfold qc5
    rw [h5, z, ← hP3, h]
    simp only [ptt, if_true, ByteArray.size_append]
    omega
  have q2 : qc2 s = P3.size := by
    unfold qc2; rw [b1.2]
    cases pt with
    | true => rw [if_pos rfl]; exact (hpt rfl).1
    | false => rw [if_neg (by decide), q1, ← hP3]; simp only [ptt, if_neg Bool.false_ne_true, ba_nil]
  have b2 : has s (qc2 s) [101, 69] = ex := by
    have h := has_sh P3 (ext ex dn X) 0 [101, 69]
    rw [Nat.add_zero, ← e3, ← q2] at h
    exact h.trans (has_ext ex dn X)
  have hex : ex = true → qc6 s = s.size ∧ nT s (qc3a s) = X ∧ has s (qc2 s + 1) [45] = dn := by
    intro h
    have x1 : ext ex dn X = ⟨#[101]⟩ ++ (⟨#[if dn then 45 else 43]⟩ ++ X) := by rw [h]; rfl
    have e4 : s = (P3 ++ ⟨#[101]⟩) ++ (⟨#[if dn then 45 else 43]⟩ ++ X) := by rw [e3, x1, ByteArray.append_assoc]
    have e5 : s = ((P3 ++ ⟨#[101]⟩) ++ ⟨#[if dn then 45 else 43]⟩) ++ (X ++ ⟨#[]⟩) := by rw [e4, ba_nil]; simp only [ByteArray.append_assoc]
    have z4 : qc2 s + 1 = (P3 ++ ⟨#[101]⟩ : ByteArray).size := by rw [q2, ByteArray.size_append, size_one]
    have h1 := has_sh (P3 ++ ⟨#[101]⟩) (⟨#[if dn then 45 else 43]⟩ ++ X) 0 [45]
    have h2 := has_sh (P3 ++ ⟨#[101]⟩) (⟨#[if dn then 45 else 43]⟩ ++ X) 0 [43, 45]
    rw [Nat.add_zero, ← e4, ← z4, has_cons] at h1 h2
    have h2' : has s (qc2 s + 1) [43, 45] = true := h2.trans (by cases dn <;> decide)
    have z5 : qc3a s = ((P3 ++ ⟨#[101]⟩) ++ ⟨#[if dn then 45 else 43]⟩ : ByteArray).size := by
      unfold qc3a; rw [h2', if_pos rfl, z4, ByteArray.size_append, ByteArray.size_append, ByteArray.size_append, size_one, size_one]
    have h5 := nE_sh ((P3 ++ ⟨#[101]⟩) ++ ⟨#[if dn then 45 else 43]⟩) (X ++ ⟨#[]⟩) 0 (Nat.zero_le _)
    have h6 := nT_sh ((P3 ++ ⟨#[101]⟩) ++ ⟨#[if dn then 45 else 43]⟩) (X ++ ⟨#[]⟩) 0 (Nat.zero_le _)
    rw [Nat.add_zero, ← e5, ← z5] at h5 h6
    rw [nE_dg X _ hX noDig_nil] at h5
    rw [nT_dgs X _ hX noDig_nil] at h6
    refine ⟨?_, h6, h1.trans (by cases dn <;> decide)⟩
    unfold qc6
    rw [h5, z5]
    conv => rhs; rw [e5, ba_nil]
    simp only [ByteArray.size_append]
  have q3 : qc3 s = s.size := by
    unfold qc3; rw [b2]
    cases ex with
    | true => rw [if_pos rfl]; exact (hex rfl).1
    | false => rw [if_neg (by decide), q2, e3]; simp only [ext, if_neg Bool.false_ne_true, ba_nil]
  unfold ratCut cutV'
  rw [tA, b0, b1.1, b1.2, b2, q3]
  rw [decide_eq_false (show ¬ A.size = 0 by omega), if_neg Bool.false_ne_true, if_neg Bool.false_ne_true]
  have c1 : (pt && decide ((nT s (qc1 s + 1)).size = 0)) = false := by
    cases pt with
    | true => rw [(hpt rfl).2]; have := hB0 rfl; rw [decide_eq_false (show ¬ B.size = 0 by omega)]; rfl
    | false => rfl
  have c2 : (ex && decide ((nT s (qc3a s)).size = 0)) = false := by
    cases ex with
    | true => rw [(hex rfl).2.1]; have := hX0 rfl; rw [decide_eq_false (show ¬ X.size = 0 by omega)]; rfl
    | false => rfl
  rw [c1, c2, if_neg Bool.false_ne_true, if_neg Bool.false_ne_true, if_neg (by omega)]
  have d1 : (if pt then nT s (qc1 s + 1) else ⟨#[]⟩) = (if pt then B else ⟨#[]⟩) := by
    cases pt with
    | true => rw [(hpt rfl).2]
    | false => rfl
  have d2 : (if ex then nT s (qc3a s) else ⟨#[]⟩) = (if ex then X else ⟨#[]⟩) := by
    cases ex with
    | true => rw [(hex rfl).2.1]
    | false => rfl
  have d3 : (ex && has s (qc2 s + 1) [45]) = (ex && dn) := by
    cases ex with
    | true => rw [(hex rfl).2.2]
    | false => rfl
  rw [d1, d2, d3]
theorem isDec_walk (s n d : ByteArray) (e k : Int) (c res : Bool) (w : World) (hc : decide (0 ≤ Lib.indexByte s.data.toList 47) = c) (hres : (e = 3 ∧ res = false) ∨ (¬ e = 3 ∧ res = !c))
    (HP : ∀ W : World, Below w.heap.size w W → Calls Tryz.prog 93 #[.string s] W fun r w' => r = .returned (.tuple #[.agg #[.string n, .string d], .int .i64 e, .int .i64 k]) ∧ Below W.heap.size W w') :
    Calls Tryz.prog 44 #[.string s] w fun r w' => r = .returned (.bool res) ∧ Below w.heap.size w w' := by
  have GP := hide (HP w (Below.refl _ _))
  have GC : Hid (∀ W : World, Calls Tryz.prog 94 #[.string s, .string ⟨#[47]⟩] W fun r w' => r = .returned (.bool c) ∧ w' = W) := fun W => by have := Tryz.strings_Contains_one s 47 W; rwa [hc] at this
  clear HP hc
  rcases hres with ⟨rfl, rfl⟩ | ⟨h3, rfl⟩
  · go_enter Tryz.func44, Tryz.ntmps44
    go_wp2_with (go_at_call 93; go_must (refine (unhide GP).mono ?_; rintro r w1 ⟨rfl, hb⟩; have HB1 := hide hb; clear hb))
    go_ret
    exact ⟨rfl, (unhide HB1).alloc (unhide HB1).size _⟩
  · cases c
    all_goals
      go_enter Tryz.func44, Tryz.ntmps44
      go_wp2_with (first
        | (go_at_call 93; go_must (refine (unhide GP).mono ?_; rintro r w1 ⟨rfl, hb⟩; have HB1 := hide hb; clear hb))
        | (go_at_call 94; go_must (refine (unhide GC _).mono ?_; rintro r w2 ⟨rfl, hw⟩; have hw2 := hw.symm; subst hw2; clear hw)))
      go_ret
      exact ⟨by simp [h3], (unhide HB1).alloc (unhide HB1).size _⟩
theorem cutDec_no (s ah be tr : ByteArray) (f : Bool) (at_ : Int) (w : World) (hat : ¬ 0 ≤ at_) (hbe : (be.size : Int) ≤ 2000) (hab : ah.size + be.size ≤ 4000)
    (HI : ∀ W : World, Calls Tryz.prog 95 #[.string s, .string ⟨#[101, 69]⟩] W fun r w' => r = .returned (.int .i64 at_) ∧ Below W.heap.size W w')
    (HC : ∀ W : World, Below w.heap.size w W → Calls Tryz.prog 97 #[.string s, .string ⟨#[46]⟩] W fun r w' => r = .returned (.tuple #[.string ah, .string be, .bool f]) ∧ Below W.heap.size W w')
    (HT : ∀ W : World, Calls Tryz.prog 98 #[.string (ah ++ be), .string ⟨#[48]⟩] W fun r w' => r = .returned (.string tr) ∧ w' = W) :
    Calls Tryz.prog 45 #[.string s] w fun r w' => r = .returned (.tuple #[.string tr, .int .i64 (-(be.size : Int))]) ∧ Below w.heap.size w w' := by
  have GI := hide (HI w)
  have GC := hide HC
  have GT := hide HT
  have h1 : (9223372036854775807 < ah.size + be.size) = False := eq_false (by omega)
  have h2 : IntKind.i64.wrap (0 - (be.size : Int)) = -(be.size : Int) := by rw [IntKind.wrap_i64]; omega
  clear HI HC HT hab
  go_enter Tryz.func45, Tryz.ntmps45
  go_wp2_with (first
    | (go_at_call 95; go_must (refine (unhide GI).mono ?_; rintro r w1 ⟨rfl, hb⟩; have HB1 := hide hb; clear hb))
    | (have hchk := HB1; clear hchk; go_at_call 97; go_must (refine (unhide GC _ (unhide HB1)).mono ?_; rintro r w2 ⟨rfl, hb⟩; have HB2 := hide ((unhide HB1).trans (hb.mono (unhide HB1).size)); clear hb HB1))
    | (go_at_call 98; go_must (refine (unhide GT _).mono ?_; rintro r w3 ⟨rfl, hw⟩; have hw2 := hw.symm; subst hw2; clear hw)))
  go_ret2
  exact ⟨rfl, unhide HB2⟩
theorem deT_list (b pt ex dn : Bool) (A B X : ByteArray) : (deT b pt ex dn A B X).data.toList = (if b then [45] else []) ++ (A.data.toList ++ ((if pt then 46 :: B.data.toList else []) ++ (if ex then 101 :: (if dn then 45 else 43) :: X.data.toList else []))) := by
  unfold deT sgn ptt ext
  cases b <;> cases pt <;> cases ex <;> simp [ByteArray.data_append]
theorem deT_mem (b pt ex dn : Bool) (A B X : ByteArray) (hA : Dg A) (hB : Dg B) (hX : Dg X) (c : UInt8) (h : c ∈ (deT b pt ex dn A B X).data.toList) : (48 ≤ c.toNat ∧ c.toNat ≤ 57) ∨ c = 45 ∨ c = 46 ∨ c = 101 ∨ c = 43 := by
  rw [deT_list] at h
  rw [List.mem_append, List.mem_append, List.mem_append] at h
  rcases h with h | h | h | h
  · cases b
    · simp at h
    · simp at h; exact Or.inr (Or.inl h)
  · exact Or.inl (hA _ h)
  · cases pt
    · simp at h
    · rw [if_pos rfl, List.mem_cons] at h
      rcases h with h | h
      · exact Or.inr (Or.inr (Or.inl h))
      · exact Or.inl (hB _ h)
  · cases ex
    · simp at h
    · rw [if_pos rfl, List.mem_cons, List.mem_cons] at h
      rcases h with h | h | h
      · exact Or.inr (Or.inr (Or.inr (Or.inl h)))
      · cases dn
        · exact Or.inr (Or.inr (Or.inr (Or.inr h)))
        · exact Or.inr (Or.inl h)
      · exact Or.inl (hX _ h)
theorem indexByte_none (l : List UInt8) (c : UInt8) (h : ∀ x ∈ l, x ≠ c) : Lib.indexByte l c = -1 := by
  induction l with
  | nil => rfl
  | cons b l ih =>
    unfold Lib.indexByte
    have hb : (b == c) = false := by rw [beq_eq_false_iff_ne]; exact h b (List.mem_cons_self ..)
    rw [hb, ih fun x hx => h x (List.mem_cons_of_mem _ hx)]
    rfl
theorem indexByte_hit (p r : List UInt8) (c : UInt8) (h : ∀ x ∈ p, x ≠ c) : Lib.indexByte (p ++ c :: r) c = (p.length : Int) := by
  induction p with
  | nil => simp [Lib.indexByte]
  | cons b l ih =>
    rw [List.cons_append]
    unfold Lib.indexByte
    have hb : (b == c) = false := by rw [beq_eq_false_iff_ne]; exact h b (List.mem_cons_self ..)
    rw [hb, ih fun x hx => h x (List.mem_cons_of_mem _ hx)]
    have : ((l.length : Int) == -1) = false := by rw [beq_eq_false_iff_ne]; omega
    rw [this]
    simp
theorem deT_size (b pt ex dn : Bool) (A B X : ByteArray) : (deT b pt ex dn A B X).size ≤ A.size + B.size + X.size + 4 := by
  unfold deT sgn ptt ext
  cases b <;> cases pt <;> cases ex <;> simp only [ByteArray.size_append, size_one, if_true, if_neg Bool.false_ne_true, size_nil] <;> omega
theorem errT_not3 (x : Rat) : ¬ errT x = 3 := by unfold errT; split <;> decide
theorem decE_not3 (b d : Bool) (t u x : ByteArray) : ¬ decE b d t u x = 3 := by
  unfold decE; split
  · exact errT_not3 _
  · decide
/-- A decimal text is a decimal. -/
theorem isDec_deT (b pt ex dn : Bool) (A B X : ByteArray) (w : World) (htab : Tab w) (hA : Dg A) (hA0 : 0 < A.size) (hB : Dg B) (hB0 : pt = true → 0 < B.size) (hX : Dg X) (hX0 : ex = true → 0 < X.size) (hs : A.size ≤ 900 ∧ B.size ≤ 900 ∧ X.size ≤ 900) :
    Calls Tryz.prog 44 #[.string (deT b pt ex dn A B X)] w fun r w' => r = .returned (.bool true) ∧ Below w.heap.size w w' := by
  have hsz := deT_size b pt ex dn A B X
  have hc : decide (0 ≤ Lib.indexByte (deT b pt ex dn A B X).data.toList 47) = false := by
    rw [indexByte_none]
    · decide
    · intro x hx e
      rcases deT_mem b pt ex dn A B X hA hB hX x hx with h | h | h | h | h
      · rw [e] at h; exact absurd h (by decide)
      all_goals (rw [e] at h; exact absurd h (by decide))
  have hcut := ratCut_deT b pt ex dn A B X hA hA0 hB hB0 hX hX0
  have dgn : Dg ⟨#[]⟩ := fun c hc => by simp at hc
  refine isDec_walk _ (decN b (ex && dn) A (if pt then B else ⟨#[]⟩) (if ex then X else ⟨#[]⟩)) (decD b (ex && dn) A (if pt then B else ⟨#[]⟩) (if ex then X else ⟨#[]⟩)) (decE b (ex && dn) A (if pt then B else ⟨#[]⟩) (if ex then X else ⟨#[]⟩)) 0 false true w hc (Or.inr ⟨decE_not3 _ _ _ _ _, rfl⟩) ?_
  intro W hW
  refine parse_dec _ A (if pt then B else ⟨#[]⟩) (if ex then X else ⟨#[]⟩) _ _ b (ex && dn) _ _ W (by omega) ?_ ?_
  · intro V
    have := cut_prog (deT b pt ex dn A B X) (by omega) V
    rw [hcut] at this
    exact this
  · intro V hV
    refine rdec_any b (ex && dn) A _ _ V ((htab.later hW).later hV) ⟨hA, hA0, by omega⟩ ?_ ?_
    · cases pt
      · exact ⟨dgn, by show 0 ≤ 65536; omega⟩
      · exact ⟨hB, by show B.size ≤ 65536; omega⟩
    · cases ex
      · exact ⟨dgn, by show 0 ≤ 65536; omega⟩
      · exact ⟨hX, by show X.size ≤ 65536; omega⟩
end Go.Proofs.YtijifpbpjinmhaaGreatDoor
