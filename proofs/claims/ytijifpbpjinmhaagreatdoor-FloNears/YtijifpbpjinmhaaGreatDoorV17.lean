/- floor, nearest, nearestTo over every number; the law of Near. -/
import Derived.Test.YtijifpbpjinmhaaGreatDoorV16
import Derived.Test.YtijifpbpjinmhaaGreatDoorV10
import Derived.Test.YtijifpbpjinmhaaGreatDoorV4
namespace Go.Proofs.YtijifpbpjinmhaaGreatDoor
open Go.RowKit
theorem p67 (p : Nat) (h : p < 10 ^ 600) : p < 1000000000 ^ 100 := Nat.lt_of_lt_of_le h (Nat.le_trans pow600 (Nat.pow_le_pow_right (by decide) (by decide)))
theorem p40 (e : Int) (h1 : -1100 ≤ e) (h2 : e ≤ 1100) : pU e < 1000000000 ^ 100 ∧ qU e < 1000000000 ^ 100 := ⟨b100 _ (by omega), b100 _ (by omega)⟩
theorem sc_lim (p : Nat) (e : Int) (h : p < 10 ^ 600) (h1 : -1100 ≤ e) (h2 : e ≤ 1100) : p * qU e < 1000000000 ^ 200 := bmul 1000000000 p (qU e) 100 100 200 (by decide) (p67 p h) (p40 e h1 h2).2 (by decide)
theorem nD_pos (n : Nat) : 1 ≤ Lib.nDigits n := by
  rw [← Lib.decDigits_length]
  have := Cub.dec_ne_nil n
  cases hd : Lib.decDigits n with
  | nil => exact absurd hd this
  | cons a t => simp
theorem floor_any (a1 : Option Addr) (l1 c1 : Nat) (a2 : Option Addr) (l2 c2 : Nat) (p q : Nat) (x : Int) (w : World) (hp : IsBig w (.agg #[.slice a1 l1 c1]) p) (hq : IsBig w (.agg #[.slice a2 l2 c2]) q) (htab : Tab w) (hp0 : 0 < p) (hq0 : 0 < q) (hp6 : p < 10 ^ 600) (hq6 : q < 10 ^ 600) (hz : SzInv p q x x) (hx : x ≤ 971) :
    Calls Tryz.prog 174 #[.agg #[.slice a1 l1 c1, .slice a2 l2 c2]] w fun e w' => e = .returned (.float .f64 (wd x (quo p q x))) ∧ Below w.heap.size w w' := by
  obtain ⟨dx, hdx⟩ : ∃ dx, Lib.nDigits p = dx := ⟨_, rfl⟩
  obtain ⟨dy, hdy⟩ : ∃ dy, Lib.nDigits q = dy := ⟨_, rfl⟩
  have hx1 : 1 ≤ dx := hdx ▸ nD_pos p
  have hy1 : 1 ≤ dy := hdy ▸ nD_pos q
  have hx6 : dx ≤ 600 := hdx ▸ (len600 p).2 hp6
  have hy6 : dy ≤ 600 := hdy ▸ (len600 q).2 hq6
  have ha1 : 10 ^ (dx - 1) ≤ p := hdx ▸ Cub.nDigits_ge p hp0
  have hb1 : 10 ^ (dy - 1) ≤ q := hdy ▸ Cub.nDigits_ge q hq0
  have ha2 : p < 10 ^ dx := hdx ▸ dig_hi p
  have hb2 : q < 10 ^ dy := hdy ▸ dig_hi q
  obtain ⟨b, hb⟩ : ∃ b, b = bitsN ((dx : Int) - (dy : Int) - 1) := ⟨_, rfl⟩
  obtain ⟨hf1, hf2⟩ := bits_fit p q dx dy b ha1 ha2 hb1 hb2 hx1 hy1 hx6 hy6 hb
  have hbr : -2500 ≤ b ∧ b ≤ 2500 := by rw [hb]; exact bitsN_rng _ (by omega) (by omega)
  obtain ⟨ee, hee⟩ : ∃ ee, max (b - 53) (-1074) = ee := ⟨_, rfl⟩
  have hee2 : (ee = b - 53 ∧ -1074 ≤ b - 53) ∨ (ee = -1074 ∧ b - 53 ≤ -1074) := by omega
  have heex : ee ≤ x := by
    rcases hee2 with ⟨h1, h2⟩ | ⟨h1, h2⟩
    · rcases Int.lt_or_le x ee with h3 | h3
      · exact absurd (below_mono p q (x + 53) (b - 1) (by omega) hz.hi) hf1
      · exact h3
    · have := hz.l1; omega
  have hel : -1074 ≤ ee := by omega
  obtain ⟨M, hM⟩ : ∃ M, quo p q ee = M := ⟨_, rfl⟩
  have hM62 : M < 18446744073709551616 := by
    have h1 := (quo_lt p q ee 62 hq0).2 (below_mono p q (b + 9) (ee + ((62 : Nat) : Int)) (by omega) hf2)
    rw [hM] at h1
    have h2 : (2 : Nat) ^ 62 ≤ 18446744073709551616 := by decide
    omega
  have hd0 : 0 < q * pU ee := scB_pos q ee hq0
  have hlow : ee = -1074 ∨ 9007199254740992 ≤ quo p q (ee - 1) := by
    rcases hee2 with ⟨h1, h2⟩ | ⟨h1, h2⟩
    · right
      have h3 := quo53 p q (ee - 1) hq0
      have h4 : ee - 1 + 53 = b - 1 := by omega
      rw [h4] at h3
      exact Nat.le_of_not_lt (fun h5 => hf1 (h3.1 h5))
    · exact Or.inl h1
  refine floor_walk a1 l1 c1 a2 l2 c2 p q (qU ee) (pU ee) M b ee _ w hp hq htab (by rw [beq_eq_false_iff_ne]; omega) ⟨p67 p hp6, p67 q hq6, (p40 ee (by omega) (by omega)).2, sc_lim p ee hp6 (by omega) (by omega), (p40 ee (by omega) (by omega)).1⟩ hM62 hM hd0 (by omega) (by omega) (by omega) (by rw [IntKind.wrap_i64]; omega) (by omega) (by omega) ?_ ?_ ?_
  · intro W h1 h2
    rw [hb]
    exact bits_any a1 l1 c1 a2 l2 c2 p q 100 dx dy W h1 h2 (by decide) (p67 p hp6) (p67 q hq6) hdx hdy (by omega) (by omega)
  · intro W
    have h := two_gen (-ee) (by omega) (by omega) W
    have e1 : pU (-ee) = qU ee := rfl
    have e2 : qU (-ee) = pU ee := by unfold qU pU; rw [Int.neg_neg]
    rw [e1, e2] at h
    exact h
  · intro i hi hprev W
    have hi20 : i ≤ 20 := by
      rcases hprev with h | h
      · omega
      · have := half_small M (i - 1) hM62 h; omega
    have e1 : M / 2 ^ i = quo p q (ee + (i : Int)) := by rw [← hM]; exact quo_up p q ee i
    have hs : SzInv p q (ee + (i : Int)) (ee + (i : Int)) := by
      refine sz_of p q _ hq0 (by omega) (by omega) (e1 ▸ hi) ?_
      rcases hprev with h | h
      · subst h
        rw [show ee + ((0 : Nat) : Int) = ee by omega]
        exact hlow
      · rcases Nat.eq_zero_or_pos i with h0 | h0
        · subst h0
          rw [show ee + ((0 : Nat) : Int) = ee by omega]
          exact hlow
        · right
          rw [← hM, quo_up p q ee (i - 1)] at h
          rw [show ee + (i : Int) - 1 = ee + ((i - 1 : Nat) : Int) by omega]
          exact h
    have hxe := sz_one p q _ _ hs hz
    rw [e1, hxe]
    rw [e1, hxe] at hi
    have hj := join_any (quo p q x) (x + 1074).toNat hi (by omega) W
    rw [show (((x + 1074).toNat : Nat) : Int) - 1074 = x by omega] at hj
    exact hj
theorem bestG_nil (p q : Nat) {f : Nat} : bestG p q ([] : List (LHF f)) = 0 := rfl
theorem bestG_one (p q f : Nat) (hf : f < 9218868437227405312) (h : ¬ f < 9218868437227405311) : bestG p q (seqF f hf) = bestStepG p q 0 f := by
  unfold seqF
  rw [dif_neg h]
  have := bestG_snoc p q [] (loF f hf)
  rw [bestG_nil] at this
  exact this
theorem bestG_two (p q f : Nat) (hf : f < 9218868437227405312) (h : f < 9218868437227405311) : bestG p q (seqF f hf) = bestStepG p q (bestStepG p q 0 f) (f + 1) := by
  unfold seqF
  rw [dif_pos h]
  have h1 := bestG_snoc p q [loF f hf] (hiF f h)
  have h2 := bestG_snoc p q [] (loF f hf)
  rw [bestG_nil] at h2
  rw [List.nil_append] at h2
  rw [h2] at h1
  exact h1
theorem scA_zero (x : Int) : scA 0 x = 0 := by unfold scA; exact Nat.zero_mul _
theorem nearest_core (a1 : Option Addr) (l1 c1 : Nat) (a2 : Option Addr) (l2 c2 : Nat) (p q : Nat) (x : Int) (m r : Nat) (w : World) (hp : IsBig w (.agg #[.slice a1 l1 c1]) p) (hq : IsBig w (.agg #[.slice a2 l2 c2]) q) (htab : Tab w) (hp6 : p < 10 ^ 600) (hq6 : q < 10 ^ 600)
    (hx : -1074 ≤ x) (hx2 : x ≤ 971) (hm : m < 9007199254740992) (hn : x = -1074 ∨ 4503599627370496 ≤ m) (hqr : scA p x = m * scB q x + r) (hr : r < scB q x) (hend : x = 971 → m = 9007199254740991 → r + r < scB q x)
    (HFLO : ∀ W : World, IsBig W (.agg #[.slice a1 l1 c1]) p → IsBig W (.agg #[.slice a2 l2 c2]) q → Tab W → Calls Tryz.prog 174 #[.agg #[.slice a1 l1 c1, .slice a2 l2 c2]] W fun e w' => e = .returned (.float .f64 (wd x m)) ∧ Below W.heap.size W w') :
    Calls Tryz.prog 76 #[.agg #[.slice a1 l1 c1, .slice a2 l2 c2]] w fun e w' => e = .returned (.float .f64 (wd x (rndB m r (scB q x)))) ∧ Below w.heap.size w w' := by
  have hf : wd x m < 9218868437227405312 := by unfold wd; omega
  refine nearest_g a1 l1 c1 a2 l2 c2 p q (wd x m) _ hf w hp hq htab (p67 p hp6) (p67 q hq6) HFLO ?_
  have hb1 := best_first p q x m r hx hx2 hm hn hqr hr
  by_cases hmx : wd x m < 9218868437227405311
  · rw [bestG_two p q _ hf hmx, hb1, wd_succ]
    exact best_second p q x m r hx hx2 hm hn hqr hr (by intro h; subst h; unfold wd at hmx; omega)
  · rw [bestG_one p q _ hf hmx, hb1]
    have h1 : x = 971 ∧ m = 9007199254740991 := by unfold wd at hmx; omega
    have h2 := hend h1.1 h1.2
    have e : rndB m r (scB q x) = m := by unfold rndB; rw [if_neg (by omega)]
    rw [e]
theorem nearest_pos (a1 : Option Addr) (l1 c1 : Nat) (a2 : Option Addr) (l2 c2 : Nat) (p q T : Nat) (x : Int) (w : World) (hp : IsBig w (.agg #[.slice a1 l1 c1]) p) (hq : IsBig w (.agg #[.slice a2 l2 c2]) q) (htab : Tab w) (hp0 : 0 < p) (hq0 : 0 < q) (hp6 : p < 10 ^ 600) (hq6 : q < 10 ^ 600) (hz : SzInv p q x x) (hT : T = 970) (h : p < 18014398509481983 * (q * 2 ^ T)) :
    Calls Tryz.prog 76 #[.agg #[.slice a1 l1 c1, .slice a2 l2 c2]] w fun e w' => e = .returned (.float .f64 (wd x (rndB (quo p q x) (scA p x % scB q x) (scB q x)))) ∧ Below w.heap.size w w' := by
  have hm : scA p x = quo p q x * scB q x + scA p x % scB q x := by unfold quo; rw [Nat.mul_comm]; exact (Nat.div_add_mod _ _).symm
  have hf := fin_facts p q T x _ _ hT hq0 hz hm h
  exact nearest_core a1 l1 c1 a2 l2 c2 p q x _ _ w hp hq htab hp6 hq6 hz.l1 hf.1 ((quo53 p q x hq0).2 hz.hi) (sz_lo p q x hq0 hz) hm (Nat.mod_lt _ (scB_pos q x hq0)) hf.2 (fun W h1 h2 h3 => floor_any a1 l1 c1 a2 l2 c2 p q x W h1 h2 h3 hp0 hq0 hp6 hq6 hz hf.1)
theorem pos600 : 0 < 10 ^ 600 := by
  obtain ⟨K, hK⟩ : ∃ K, K = 600 := ⟨_, rfl⟩
  rw [← hK]
  exact Nat.pow_pos (by decide)
theorem nearest_zero (a1 : Option Addr) (l1 c1 : Nat) (a2 : Option Addr) (l2 c2 : Nat) (q : Nat) (w : World) (hp : IsBig w (.agg #[.slice a1 l1 c1]) 0) (hq : IsBig w (.agg #[.slice a2 l2 c2]) q) (htab : Tab w) (hq0 : 0 < q) (hq6 : q < 10 ^ 600) :
    Calls Tryz.prog 76 #[.agg #[.slice a1 l1 c1, .slice a2 l2 c2]] w fun e w' => e = .returned (.float .f64 0) ∧ Below w.heap.size w w' := by
  have hb := scB_pos q (-1074) hq0
  have e0 : wd (-1074) 0 = 0 := by unfold wd; decide
  have h := nearest_core a1 l1 c1 a2 l2 c2 0 q (-1074) 0 0 w hp hq htab pos600 hq6 (by decide) (by decide) (by decide) (Or.inl rfl) (by rw [scA_zero, Nat.zero_mul]) hb (fun h => by omega) (fun W h1 h2 h3 => by rw [e0]; exact floor_zero a1 l1 c1 a2 l2 c2 W h1)
  have e : rndB 0 0 (scB q (-1074)) = 0 := by unfold rndB; rw [if_neg (by omega)]
  rwa [e, e0] at h
theorem sz_600 (n d : Nat) (hn : n < 10 ^ 600) (hd : 0 < d) : ∃ x, SzInv n d x x := by
  obtain ⟨K, hK⟩ : ∃ K, K = 600 := ⟨_, rfl⟩
  have hp6 := pow600_two K (4 * K + 1) rfl
  rw [← hK] at hn
  refine sz_ex n d ?_
  unfold scA scB
  have e1 : (-(5053 : Int)).toNat = 0 := by decide
  have e2 : ((5053 : Int)).toNat = 5053 := by decide
  obtain ⟨T, hT⟩ : ∃ T, T = 5053 := ⟨_, rfl⟩
  rw [e1, e2, Nat.pow_zero, Nat.mul_one, ← hT]
  have h1 : n < 2 ^ T := Nat.lt_of_lt_of_le (Nat.lt_trans hn hp6) (Nat.pow_le_pow_right (by decide) (by omega))
  exact Nat.lt_of_lt_of_le h1 (Nat.le_mul_of_pos_left _ hd)
theorem cmp_end (n d P T : Nat) (hP : P = 2 ^ T) : (Cub.cmpN (n * (1 * 1)) (18014398509481983 * P * d) = -1 ∧ n < 18014398509481983 * (d * 2 ^ T)) ∨ (0 ≤ Cub.cmpN (n * (1 * 1)) (18014398509481983 * P * d) ∧ ¬ n < 18014398509481983 * (d * 2 ^ T)) := by
  have e : 18014398509481983 * P * d = 18014398509481983 * (d * 2 ^ T) := by rw [hP, Nat.mul_assoc, Nat.mul_comm (2 ^ T) d]
  rw [e]
  simp only [Nat.mul_one]
  generalize 18014398509481983 * (d * 2 ^ T) = E
  unfold Cub.cmpN
  by_cases h : n < E
  · rw [if_pos h]; exact Or.inl ⟨rfl, h⟩
  · rw [if_neg h]; right; refine ⟨?_, h⟩; split <;> decide
/-- What both answer for a right number. -/
theorem near_all (num den : ByteArray) (b : Bool) (n d : Nat) (h : RT num den b n d) :
    ∃ (f : Nat) (er : Int), ToAns b n d f er ∧ ∀ (u : Nat) (ok : Bool), NearV b n d (.tuple #[.int .u64 (u : Nat), .bool ok]) → (if ok then (.tuple #[.float .f64 u, .int .i64 0] : Value) else .tuple #[.float .f64 0, .int .i64 31]) = .tuple #[.float .f64 f, .int .i64 er] := by
  have hn := h.hn
  have hd := h.hd
  have hd0 : 0 < d := h.low.pos
  obtain ⟨T, hT⟩ : ∃ T, T = 970 := ⟨_, rfl⟩
  have hP : P970 = 2 ^ T := by rw [hT]; exact P970_is.symm
  rcases cmp_end n d P970 T hP with ⟨hc, hlt⟩ | ⟨hc, hlt⟩
  · rcases Nat.eq_zero_or_pos n with h0 | h0
    · subst h0
      have hb : b = false := by
        cases hb : b
        · rfl
        · exact absurd rfl (h.low.sign hb)
      subst hb
      refine ⟨0, 0, ?_, ?_⟩
      · intro a1 l1 c1 a2 l2 c2 W h1 h2 h3
        exact nearestTo_fin a1 l1 c1 a2 l2 c2 false 0 d 0 W h1 h2 hn hd h3 hc (fun V g1 g2 g3 => nearest_zero a1 l1 c1 a2 l2 c2 d V g1 g2 g3 hd0 hd) (by decide)
      · intro u ok hv
        rcases hv with ⟨_, hv⟩ | ⟨hv, _⟩
        · have hu : u = 0 ∧ ok = true := by
            have := hv
            simp only [Value.tuple.injEq, Array.mk.injEq, List.cons.injEq, Value.int.injEq, Value.bool.injEq, true_and, and_true] at this
            exact ⟨by omega, this.2⟩
          rw [hu.1, hu.2]; rfl
        · omega
    · obtain ⟨x, hz⟩ := sz_600 n d hn hd0
      have hf := fin_facts n d T x _ _ hT hd0 hz (by unfold quo; rw [Nat.mul_comm]; exact (Nat.div_add_mod _ _).symm : scA n x = quo n d x * scB d x + scA n x % scB d x) hlt
      have h53 := (quo53 n d x hd0).2 hz.hi
      have hrn := rnd_in (quo n d x) (scA n x % scB d x) (scB d x)
      have hw := wd_lt x (rndB (quo n d x) (scA n x % scB d x) (scB d x)) hz.l1 hf.1 (by omega)
      refine ⟨_, 0, fun a1 l1 c1 a2 l2 c2 W h1 h2 h3 => nearestTo_fin a1 l1 c1 a2 l2 c2 b n d _ W h1 h2 hn hd h3 hc (fun V g1 g2 g3 => nearest_pos a1 l1 c1 a2 l2 c2 n d T x V g1 g2 g3 h0 hd0 hn hd hz hT hlt) hw, ?_⟩
      intro u ok hv
      rcases hv with ⟨hv, _⟩ | ⟨_, y, hy, hv⟩
      · omega
      · rw [sz_one n d y x hy hz] at hv
        rw [nearB_fin _ n d T x (by cases b <;> simp) hT hd0 hz hlt (sz_lo n d x hd0 hz)] at hv
        simp only [Value.tuple.injEq, Array.mk.injEq, List.cons.injEq, Value.int.injEq, Value.bool.injEq, true_and, and_true] at hv
        have hu : u = (if b then 9223372036854775808 else 0) + wd x (rndB (quo n d x) (scA n x % scB d x) (scB d x)) := by omega
        rw [hv.2, hu, if_pos rfl]
        cases b
        · simp
        · simp [Nat.add_comm]
  · refine ⟨0, 31, fun a1 l1 c1 a2 l2 c2 W h1 h2 h3 => nearestTo_inf a1 l1 c1 a2 l2 c2 b n d _ W h1 h2 hn hd h3 rfl hc, ?_⟩
    intro u ok hv
    have h0 : 0 < n := by
      rcases Nat.eq_zero_or_pos n with h0 | h0
      · exfalso
        subst h0
        exact hlt (Nat.mul_pos (by decide) (Nat.mul_pos hd0 (Nat.two_pow_pos T)))
      · exact h0
    rcases hv with ⟨hv, _⟩ | ⟨_, y, hy, hv⟩
    · omega
    · rw [nearB_inf _ n d T y hT hd0 hy hlt] at hv
      simp only [Value.tuple.injEq, Array.mk.injEq, List.cons.injEq, Value.int.injEq, Value.bool.injEq, true_and, and_true] at hv
      rw [hv.2]; rfl
theorem same_self (f : Nat) : sameB f f = true := by unfold sameB; simp
theorem law_nears (num den : ByteArray) (hs1 : num.size ≤ maxLen) (hs2 : den.size ≤ maxLen) (w : World) (htab : Tab w) :
    Calls Tryz.prog 3 #[.agg #[.string num, .string den]] w fun r w' => r = .returned (.bool true) ∧ Below w.heap.size w w' := by
  by_cases h : RightT num den
  · obtain ⟨b, n, d, h⟩ := h
    obtain ⟨f, er, ht, hv⟩ := near_all num den b n d h
    refine nears_walk num den f f er er w htab rfl (same_self f) (fun W hW => near_ok num den b n d f er W h hW ht) (fun W => ?_)
    refine (refNear_ok num den b n d W hs1 hs2 h).mono ?_
    rintro e w' ⟨⟨u, ok, hN, rfl⟩, hb⟩
    exact ⟨by rw [hv u ok hN], hb⟩
  · exact nears_walk num den 0 0 3 3 w htab rfl (same_self 0) (fun W _ => near_no num den W hs1 hs2 h) (fun W => refNear_no num den W hs1 hs2 h)
end Go.Proofs.YtijifpbpjinmhaaGreatDoor
