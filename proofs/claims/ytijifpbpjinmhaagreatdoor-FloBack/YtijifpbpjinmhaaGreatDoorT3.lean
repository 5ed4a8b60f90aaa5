/- Text (18) over every finite float: what it is. -/
import Derived.Test.YtijifpbpjinmhaaGreatDoorB3
import Derived.Test.YtijifpbpjinmhaaGreatDoorHas
import Derived.Test.YtijifpbpjinmhaaGreatDoorV3
set_option maxHeartbeats 4000000
set_option maxRecDepth 100000
namespace Go.Proofs.YtijifpbpjinmhaaGreatDoor
open Go.RowKit
/-- What stands in a float's shortest text. -/
def ShortP (u : Nat) (n : Int) (k d : Nat) : Prop := 1 ≤ k ∧ k ≤ 17 ∧ -400 ≤ n ∧ n ≤ 400 ∧ 10 ^ (k - 1) ≤ d ∧ d ≤ 10 ^ k ∧ NearU (d * tN (n - (k : Int))) (tD (n - (k : Int))) u ∧ (k = 1 ∨ (foF u n (k - 1)).isSome = false)
theorem sgw_mv (b : Bool) (u : Nat) : mvB (sgw b u) = mvB u ∧ evB (sgw b u) = evB u := by
  have e1 : xpB (sgw b u) = xpB u := by unfold xpB sgw; cases b <;> simp; omega
  have e2 : mtB (sgw b u) = mtB u := by unfold mtB sgw; cases b <;> simp; omega
  unfold mvB evB
  rw [e1, e2]
  exact ⟨rfl, rfl⟩
theorem big40 (m : Nat) (h : m < 36028797018963968) : m < 1000000000 ^ 2 := Nat.lt_trans h (by decide)
theorem aF_lt (u : Nat) (hu : u < 9218868437227405312) : aF u < 10 ^ 395 ∧ dF u < 10 ^ 395 ∧ aF u < 1000000000 ^ 100 ∧ dF u < 1000000000 ^ 100 := by
  obtain ⟨e1, e2⟩ := evB_rng u hu
  have hm := mvB_lt u
  obtain ⟨T, hT⟩ : ∃ T, T = 1076 := ⟨_, rfl⟩
  have h1 : pU (evB u - 2) ≤ 2 ^ T := Nat.pow_le_pow_right (by decide) (by omega)
  have h2 : qU (evB u - 2) ≤ 2 ^ T := Nat.pow_le_pow_right (by decide) (by omega)
  have h3 : 2 ^ T * 36028797018963968 < 10 ^ 395 ∧ 2 ^ T < 10 ^ 395 ∧ 2 ^ T * 36028797018963968 < 1000000000 ^ 100 ∧ 2 ^ T < 1000000000 ^ 100 := by rw [hT]; decide +kernel
  have h4 : aF u ≤ 2 ^ T * 36028797018963968 := Nat.mul_le_mul h1 (by omega)
  exact ⟨Nat.lt_of_le_of_lt h4 h3.1, Nat.lt_of_le_of_lt h2 h3.2.1, Nat.lt_of_le_of_lt h4 h3.2.2.1, Nat.lt_of_le_of_lt h2 h3.2.2.2⟩
theorem nD_le (n k : Nat) (hk : 1 ≤ k) (h : n < 10 ^ k) : Lib.nDigits n ≤ k := by
  rw [← Lib.decDigits_length]; exact (Cub.dec_len_lt n k hk).2 h
theorem shortest_any (b : Bool) (u : Nat) (h0 : 0 < u) (hu : u < 9218868437227405312) (w : World) (htab : Tab w) :
    Calls Tryz.prog 56 #[.float .f64 (sgw b u)] w fun e w' => (∃ (n : Int) (k d : Nat), ShortP u n k d ∧ e = .returned (if k < (tb d).size then .tuple #[.string ⟨#[49]⟩, .int .i64 (n + 1)] else .tuple #[.string (tb d), .int .i64 n])) ∧ Below w.heap.size w w' := by
  obtain ⟨e1, e2⟩ := evB_rng u hu
  obtain ⟨g1, g2⟩ := sgw_mv b u
  have hm := mvB_lt u
  have hm0 := mv_pos u h0 hu
  obtain ⟨l1, l2, l3, l4⟩ := aF_lt u hu
  have hA0 : 0 < aF u := Nat.mul_pos (pU_pos _) (by omega)
  have hD0 : 0 < dF u := qU_pos _
  obtain ⟨dA, hdA⟩ : ∃ x, Lib.nDigits (aF u) = x := ⟨_, rfl⟩
  obtain ⟨dD, hdD⟩ : ∃ x, Lib.nDigits (dF u) = x := ⟨_, rfl⟩
  have a1 : 1 ≤ dA := hdA ▸ nD_pos _
  have a2 : 1 ≤ dD := hdD ▸ nD_pos _
  have a3 : dA ≤ 395 := hdA ▸ nD_le _ 395 (by decide) l1
  have a4 : dD ≤ 395 := hdD ▸ nD_le _ 395 (by decide) l2
  have b1 : 10 ^ (dA - 1) ≤ aF u := hdA ▸ Cub.nDigits_ge _ hA0
  have b2 : aF u < 10 ^ dA := hdA ▸ dig_hi _
  have b3 : 10 ^ (dD - 1) ≤ dF u := hdD ▸ Cub.nDigits_ge _ hD0
  have b4 : dF u < 10 ^ dD := hdD ▸ dig_hi _
  obtain ⟨n0, hn0⟩ : ∃ n0 : Int, (dA : Int) - (dD : Int) = n0 := ⟨_, rfl⟩
  obtain ⟨c, hc⟩ : ∃ c, Cub.cmpN (aF u * tD n0) (tN n0 * dF u) = c := ⟨_, rfl⟩
  obtain ⟨n, hn⟩ : ∃ n : Int, (c < 0 ∧ n = n0) ∨ (¬ c < 0 ∧ n = n0 + 1) := by
    by_cases h : c < 0
    · exact ⟨n0, Or.inl ⟨h, rfl⟩⟩
    · exact ⟨n0 + 1, Or.inr ⟨h, rfl⟩⟩
  have hnr : -395 ≤ n ∧ n ≤ 395 := by omega
  obtain ⟨x1, x2⟩ := places_is (aF u) (dF u) dA dD n0 c n b1 b2 b3 b4 a1 a2 hn0 hc hn
  have h17 := fo_17 u n x1
  have hbl := blF_is u
  refine (shortest_walk (sgw b u) (aF u) (pU (evB u - 2) * blF u) (pU (evB u - 2) * 2) (dF u) (evF u) n (foF u n) w htab ?_ (by omega) (by omega) ?_ ?_ ?_ ?_).mono ?_
  · rw [eq_zero (sgw b u) (by rw [sgw_mod b u hu]; exact hu), sgw_mod b u hu]
    exact decide_eq_false (by omega)
  · intro W
    have hcut := cut_any (sgw b u) (sgw_lt b u hu)
    rw [g1, g2] at hcut
    exact roomOf_any (sgw b u) (mvB u) (4 * mvB u) (mvB u % 2) (blF u) (pU (evB u - 2)) (qU (evB u - 2)) 100 (evB u) (evF u) W hcut e1 e2 (by decide) (b100 _ (by omega)) (by omega) rfl (Nat.lt_of_lt_of_le (big40 _ (by omega)) (Nat.pow_le_pow_right (by decide) (by decide))) (by decide +kernel) (by rw [Int.tmod_eq_emod_of_nonneg (by omega)]; omega) rfl
      (by
        rcases hbl with ⟨p1, p2, p3⟩ | ⟨p1, p3⟩
        · exact Or.inl ⟨by rw [beq_iff_eq]; omega, p2, p3⟩
        · by_cases p4 : mvB u = 4503599627370496
          · exact Or.inr (Or.inl ⟨by rw [beq_iff_eq]; omega, fun h => p1 ⟨p4, h⟩, p3⟩)
          · exact Or.inr (Or.inr ⟨by rw [beq_eq_false_iff_ne]; omega, p3⟩))
      (fun V => two_gen (evB u - 2) (by omega) (by omega) V)
  · intro a1' l1' c1' a4' l4' c4' W hA hD
    obtain ⟨t1, t2⟩ := t_lt n0 (by omega) (by omega)
    exact places_any a1' l1' c1' a4' l4' c4' (aF u) (dF u) dA dD 100 (tN n0) (tD n0) n0 W hA hD (by decide) l3 l4 hdA hdD hn0 (by omega) (fun V => ten_gen n0 (by omega) (by omega) V) ⟨t1, t2⟩ c n hc hn
  · intro a1' l1' c1' a2' l2' c2' a3' l3' c3' a4' l4' c4' W hA hB hC hD j V hj1 hj2 hb
    obtain ⟨t1, t2⟩ := t_lt (n - (j : Int)) (by omega) (by omega)
    have hbl2 : blF u ≤ 2 := by rcases hbl with ⟨_, _, h⟩ | ⟨_, h⟩ <;> rw [h] <;> decide
    have hP2 : pU (evB u - 2) * 2 < 1000000000 ^ 100 := Nat.lt_of_le_of_lt (Nat.mul_le_mul_left _ (by omega)) l3
    have h := decimal_any a1' l1' c1' a2' l2' c2' a3' l3' c3' a4' l4' c4' (evF u) (aF u) (pU (evB u - 2) * blF u) (pU (evB u - 2) * 2) (dF u) (tN (n - (j : Int))) (tD (n - (j : Int))) 100 (j : Int) n (n - (j : Int)) _ _ _ _ _ V (hA.later hb) (hB.later hb) (hC.later hb) (hD.later hb) (by rw [IntKind.wrap_i64]; omega) (fun V' => ten_gen (n - (j : Int)) (by omega) (by omega) V') (by decide) hD0 ⟨l3, Nat.lt_of_le_of_lt (Nat.mul_le_mul_left _ hbl2) hP2, hP2, l4, t2, t1⟩ (tN_pos _) rfl rfl rfl rfl rfl
    simp only [foF, if_pos hj2]
    exact h
  · intro j
    cases hf : foF u n j with
    | none => decide
    | some d =>
      show d < 18446744073709551616
      have hj : j ≤ 17 := by
        rcases Nat.lt_or_ge 17 j with h | h
        · unfold foF at hf; rw [if_neg (by omega)] at hf; cases hf
        · exact h
      rcases Nat.eq_zero_or_pos j with h | h
      · subst h
        have b5 := t_lt' (aF u) (dF u) n 0 x2
        unfold foF at hf
        rw [if_pos (by decide)] at hf
        have hU : 0 < dF u * tN (n - ((0 : Nat) : Int)) := Nat.mul_pos hD0 (tN_pos _)
        have q2 : aF u * tD (n - ((0 : Nat) : Int)) / (dF u * tN (n - ((0 : Nat) : Int))) < 1 := by
          rw [Nat.div_lt_iff_lt_mul hU, Nat.one_mul, Nat.mul_comm (dF u)]
          rw [Nat.pow_zero, Nat.one_mul] at b5
          exact b5
        rcases dec_cases _ _ _ _ _ _ hf with ⟨_, rfl⟩ | ⟨_, rfl⟩ <;> omega
      · have := (fo_size u n j d h x1 x2 hf).2
        have h2 : (10 : Nat) ^ j ≤ 10 ^ 17 := Nat.pow_le_pow_right (by decide) hj
        have h3 : (10 : Nat) ^ 17 < 18446744073709551616 := by decide
        omega
  · rintro e w' ⟨⟨s, hs, hsA, hsB, rfl⟩, hb⟩
    refine ⟨?_, hb⟩
    have hsome : (foF u n (s + 1)).isSome = true := by
      rcases unhide hsB with h | h
      · rw [h]; exact h17
      · exact h
    cases hf : foF u n (s + 1) with
    | none => rw [hf] at hsome; cases hsome
    | some d =>
      obtain ⟨z1, z2⟩ := fo_size u n (s + 1) d (by omega) x1 x2 hf
      refine ⟨n, s + 1, d, ⟨by omega, by omega, by omega, by omega, z1, z2, fo_near u n (s + 1) d h0 hu hf, ?_⟩, rfl⟩
      rcases unhide hsA with h | h
      · left; omega
      · right; exact h
def zer (k : Nat) : ByteArray := ⟨(List.replicate k 48).toArray⟩
/-- A number's text, of its digits and its exponent. -/
def laidT (T : ByteArray) (n : Int) : ByteArray :=
  if (T.size : Int) ≤ n ∧ n ≤ 21 then T ++ zer (n - (T.size : Int)).toNat
  else if 0 < n ∧ n < (T.size : Int) then T.extract 0 n.toNat ++ ⟨#[46]⟩ ++ T.extract n.toNat T.size
  else if -6 < n ∧ n ≤ 0 then ⟨#[48, 46]⟩ ++ zer (-n).toNat ++ T
  else (if 1 < (T.size : Int) then T.extract 0 1 ++ (⟨#[46]⟩ ++ T.extract 1 T.size) else T.extract 0 1) ++ (if 0 < n then ⟨#[101, 43]⟩ else ⟨#[101, 45]⟩) ++ tx (if 0 < n then n - 1 else 1 - n).toNat
theorem laid_walk (T : ByteArray) (n : Int) (w : World) (hT1 : (1 : Int) ≤ (T.size : Int)) (hT2 : (T.size : Int) ≤ 20) (hn1 : -500 ≤ n) (hn2 : n ≤ 500)
    (HR : ∀ (k : Nat) (W : World), k ≤ 600 → Calls Tryz.prog 104 #[.string ⟨#[48]⟩, .int .i64 (k : Int)] W fun e w' => e = .returned (.string (zer k)) ∧ Below W.heap.size W w')
    (HI : ∀ (k : Nat) (W : World), k ≤ 600 → Below w.heap.size w W → Calls Tryz.prog 105 #[.int .i64 (k : Int)] W fun e w' => e = .returned (.string (tx k)) ∧ Below W.heap.size W w') :
    Calls Tryz.prog 55 #[.string T, .int .i64 n] w fun e w' => e = .returned (.string (laidT T n)) ∧ Below w.heap.size w w' := by
  have GR := hide HR
  have GI := hide HI
  have ht20 : T.size ≤ 20 := by omega
  have hzs : ∀ k, (zer k).size = k := fun k => by unfold zer; simp [ByteArray.size]
  have HB0 : Hid (Below w.heap.size w w) := Below.refl _ _
  obtain ⟨L, hL⟩ : ∃ L, laidT T n = L := ⟨_, rfl⟩
  rw [hL]
  unfold laidT at hL
  clear HR HI
  by_cases c1 : (T.size : Int) ≤ n ∧ n ≤ 21
  · rw [if_pos c1] at hL
    obtain ⟨c2, c3⟩ := c1
    obtain ⟨k, hk⟩ : ∃ k : Nat, n - (T.size : Int) = (k : Int) := ⟨(n - (T.size : Int)).toNat, by omega⟩
    have hwk : IntKind.i64.wrap (n - (T.size : Int)) = (k : Int) := by rw [IntKind.wrap_i64]; omega
    have HL : Hid (T ++ zer k = L) := by rw [← hL, hk]; rfl
    have hk6 : k ≤ 600 := by omega
    have GRK := hide (fun W => unhide GR k W hk6)
    have hz := hzs k
    clear hL GI GR
    go_enter Tryz.func55, Tryz.ntmps55
    go_wp2_with (go_at_call 104; go_must (refine (unhide GRK _).mono ?_; rintro e w1 ⟨rfl, hb⟩; have HB1 := hide hb; clear hb))
    go_ret
    exact ⟨by rw [← unhide HL]; rfl, unhide HB1⟩
  · rw [if_neg c1] at hL
    by_cases c2 : 0 < n ∧ n < (T.size : Int)
    · rw [if_pos c2] at hL
      obtain ⟨c3, c4⟩ := c2
      have c5 : ¬ (T.size : Int) ≤ n := by omega
      have c6 : 0 ≤ n := by omega
      have c7 : n ≤ (T.size : Int) := by omega
      have HL := hide hL
      clear hL GI GR c1
      go_enter Tryz.func55, Tryz.ntmps55
      have c8 : n.toNat ≤ T.size := by omega
      have s1 : (T.extract 0 n.toNat).size = n.toNat := by rw [ByteArray.size_extract]; omega
      have s2 : (T.extract n.toNat T.size).size = T.size - n.toNat := by rw [ByteArray.size_extract]; omega
      have s3 : (T.extract 0 n.toNat ++ ⟨#[46]⟩).size = n.toNat + 1 := by rw [ByteArray.size_append, s1]; rfl
      have s4 : (⟨#[46]⟩ : ByteArray).size = 1 := rfl
      have c9 : n ≤ 9223372036854775806 := by omega
      have c10 : n.toNat + 1 + (T.size - n.toNat) ≤ 9223372036854775807 := by omega
      go_upto_region 5 with fail
      refine region_reads 8 (fun _ => True) (fun _ => True) 9 rfl (by kernel_rfl) ?_
      have HBd : Hid (Below w.heap.size w w.drew) := (Below.refl _ _).drew
      refine wpR_take7 (i := 0) (oi := _) (v := .string T) rfl (by kernel_rfl) (by kernel_rfl) (by kernel_rfl) (by kernel_rfl) (fun _ _ _ h => h) (Or.inl ⟨by rfl, ?_⟩) ⟨trivial, trivial⟩ ?_
      · intro W' hW
        go_simp
      refine wpR_take7 (i := 1) (oi := _) (v := .int .i64 n) rfl (by kernel_rfl) (by kernel_rfl) (by kernel_rfl) (by kernel_rfl) (fun _ _ _ h => h) (Or.inl ⟨by rfl, ?_⟩) ⟨trivial, trivial⟩ ?_
      · intro W' hW
        go_simp
      refine wpR_take7 (i := 2) (oi := _) (v := .string (T.extract 0 n.toNat)) rfl (by kernel_rfl) (by kernel_rfl) (by kernel_rfl) (by kernel_rfl) (fun _ _ _ h => h) (Or.inl ⟨by rfl, ?_⟩) ⟨trivial, trivial⟩ ?_
      · intro W' hW
        go_simp
      refine wpR_take7 (i := 3) (oi := _) (v := .string (T.extract 0 n.toNat ++ ⟨#[46]⟩)) rfl (by kernel_rfl) (by kernel_rfl) (by kernel_rfl) (by kernel_rfl) (fun _ _ _ h => h) (Or.inl ⟨by rfl, ?_⟩) ⟨trivial, trivial⟩ ?_
      · intro W' hW
        go_simp
      refine wpR_take7 (i := 4) (oi := _) (v := .string T) rfl (by kernel_rfl) (by kernel_rfl) (by kernel_rfl) (by kernel_rfl) (fun _ _ _ h => h) (Or.inl ⟨by rfl, ?_⟩) ⟨trivial, trivial⟩ ?_
      · intro W' hW
        go_simp
      refine wpR_take7 (i := 5) (oi := _) (v := .int .i64 n) rfl (by kernel_rfl) (by kernel_rfl) (by kernel_rfl) (by kernel_rfl) (fun _ _ _ h => h) (Or.inl ⟨by rfl, ?_⟩) ⟨trivial, trivial⟩ ?_
      · intro W' hW
        go_simp
      refine wpR_take7 (i := 6) (oi := _) (v := .string (T.extract n.toNat T.size)) rfl (by kernel_rfl) (by kernel_rfl) (by kernel_rfl) (by kernel_rfl) (fun _ _ _ h => h) (Or.inl ⟨by rfl, ?_⟩) ⟨trivial, trivial⟩ ?_
      · intro W' hW
        go_simp
      refine wpR_take7 (i := 7) (oi := _) (v := .string (T.extract 0 n.toNat ++ ⟨#[46]⟩ ++ T.extract n.toNat T.size)) rfl (by kernel_rfl) (by kernel_rfl) (by kernel_rfl) (by kernel_rfl) (fun _ _ _ h => h) (Or.inl ⟨by rfl, ?_⟩) ⟨trivial, trivial⟩ ?_
      · intro W' hW
        go_simp
      refine wpR_late (i := 8) (o := _) (by kernel_rfl) rfl rfl (by kernel_rfl) (fun K hK => ?_)
      go_simp
      refine hK _ _ trivial ?_
      clear hK K
      refine wpR_done (by kernel_rfl) ?_
      go_wp2_with fail
      go_ret
      exact ⟨by rw [← unhide HL]; rfl, unhide HBd⟩
    · rw [if_neg c2] at hL
      by_cases c3 : -6 < n ∧ n ≤ 0
      · rw [if_pos c3] at hL
        obtain ⟨c4, c5⟩ := c3
        have c6 : ¬ (T.size : Int) ≤ n := by omega
        have c7 : ¬ 0 < n := by omega
        obtain ⟨k, hk⟩ : ∃ k : Nat, -n = (k : Int) := ⟨(-n).toNat, by omega⟩
        have hwk : IntKind.i64.wrap (-n) = (k : Int) := by rw [IntKind.wrap_i64]; omega
        have HL : Hid (⟨#[48, 46]⟩ ++ zer k ++ T = L) := by rw [← hL, hk]; rfl
        have hk6 : k ≤ 600 := by omega
        have GRK := hide (fun W => unhide GR k W hk6)
        have hz := hzs k
        clear hL GI GR c1 c2
        go_enter Tryz.func55, Tryz.ntmps55
        go_wp2_with (go_at_call 104; go_must (refine (unhide GRK _).mono ?_; rintro e w1 ⟨rfl, hb⟩; have HB1 := hide hb; clear hb))
        go_ret
        exact ⟨by rw [← unhide HL]; rfl, unhide HB1⟩
      · rw [if_neg c3] at hL
        by_cases c4 : 0 < n
        · have c5 : ¬ n < (T.size : Int) := by omega
          have c6 : ¬ n ≤ 21 := by omega
          have c7 : (T.size : Int) ≤ n := by omega
          have c8 : ¬ n ≤ 0 := by omega
          rw [if_pos c4, if_pos c4] at hL
          obtain ⟨k, hk⟩ : ∃ k : Nat, n - 1 = (k : Int) := ⟨(n - 1).toNat, by omega⟩
          have hwk : IntKind.i64.wrap (n - 1) = (k : Int) := by rw [IntKind.wrap_i64]; omega
          have hk6 : k ≤ 600 := by omega
          have GIK := hide (fun W h => unhide GI k W hk6 h)
          rw [hk, Int.toNat_natCast] at hL
          clear GI GR c1 c2 c3
          have s1 : (T.extract 0 1).size = 1 := by rw [ByteArray.size_extract]; omega
          have s2 : (T.extract 1 T.size).size = T.size - 1 := by rw [ByteArray.size_extract]; omega
          have s3 : (⟨#[46]⟩ ++ T.extract 1 T.size).size = 1 + (T.size - 1) := by rw [ByteArray.size_append, s2]; rfl
          have s4 : (T.extract 0 1 ++ (⟨#[46]⟩ ++ T.extract 1 T.size)).size = 1 + (1 + (T.size - 1)) := by rw [ByteArray.size_append, s1, s3]
          have s5 : (⟨#[46]⟩ : ByteArray).size = 1 := rfl
          have hxk : (tx k).size ≤ 3 := tx_size (by decide) (by omega)
          have s6 : (9223372036854775807 < 1 + (1 + (T.size - 1)) + 2 + (tx k).size) = False := eq_false (by omega)
          have s7 : (9223372036854775807 < 1 + 2 + (tx k).size) = False := eq_false (by omega)
          have s8 : (9223372036854775807 < (3 : Nat) + (tx k).size) = False := eq_false (by omega)
          by_cases c9 : 1 < (T.size : Int)
          · rw [if_pos c9] at hL
            have HL := hide hL
            clear hL
            go_enter Tryz.func55, Tryz.ntmps55
            go_wp2_with (go_at_call 105; go_must (refine (unhide GIK _ (unhide HB0)).mono ?_; rintro e w1 ⟨rfl, hb⟩; have HB1 := hide hb; clear hb))
            go_ret
            exact ⟨by rw [← unhide HL]; rfl, unhide HB1⟩
          · rw [if_neg c9] at hL
            have HL := hide hL
            clear hL
            go_enter Tryz.func55, Tryz.ntmps55
            go_wp2_with (go_at_call 105; go_must (refine (unhide GIK _ (unhide HB0)).mono ?_; rintro e w1 ⟨rfl, hb⟩; have HB1 := hide hb; clear hb))
            go_ret
            exact ⟨by rw [← unhide HL]; rfl, unhide HB1⟩
        · have c5 : ¬ -6 < n := by omega
          have c7 : ¬ (T.size : Int) ≤ n := by omega
          rw [if_neg c4, if_neg c4] at hL
          obtain ⟨k, hk⟩ : ∃ k : Nat, 1 - n = (k : Int) := ⟨(1 - n).toNat, by omega⟩
          have hwk : IntKind.i64.wrap (1 - n) = (k : Int) := by rw [IntKind.wrap_i64]; omega
          have hk6 : k ≤ 600 := by omega
          have GIK := hide (fun W h => unhide GI k W hk6 h)
          rw [hk, Int.toNat_natCast] at hL
          clear GI GR c1 c2 c3
          have s1 : (T.extract 0 1).size = 1 := by rw [ByteArray.size_extract]; omega
          have s2 : (T.extract 1 T.size).size = T.size - 1 := by rw [ByteArray.size_extract]; omega
          have s3 : (⟨#[46]⟩ ++ T.extract 1 T.size).size = 1 + (T.size - 1) := by rw [ByteArray.size_append, s2]; rfl
          have s4 : (T.extract 0 1 ++ (⟨#[46]⟩ ++ T.extract 1 T.size)).size = 1 + (1 + (T.size - 1)) := by rw [ByteArray.size_append, s1, s3]
          have s5 : (⟨#[46]⟩ : ByteArray).size = 1 := rfl
          have hxk : (tx k).size ≤ 3 := tx_size (by decide) (by omega)
          have s6 : (9223372036854775807 < 1 + (1 + (T.size - 1)) + 2 + (tx k).size) = False := eq_false (by omega)
          have s7 : (9223372036854775807 < 1 + 2 + (tx k).size) = False := eq_false (by omega)
          have s8 : (9223372036854775807 < (3 : Nat) + (tx k).size) = False := eq_false (by omega)
          by_cases c9 : 1 < (T.size : Int)
          · rw [if_pos c9] at hL
            have HL := hide hL
            clear hL
            go_enter Tryz.func55, Tryz.ntmps55
            go_wp2_with (go_at_call 105; go_must (refine (unhide GIK _ (unhide HB0)).mono ?_; rintro e w1 ⟨rfl, hb⟩; have HB1 := hide hb; clear hb))
            go_ret
            exact ⟨by rw [← unhide HL]; rfl, unhide HB1⟩
          · rw [if_neg c9] at hL
            have HL := hide hL
            clear hL
            go_enter Tryz.func55, Tryz.ntmps55
            go_wp2_with (go_at_call 105; go_must (refine (unhide GIK _ (unhide HB0)).mono ?_; rintro e w1 ⟨rfl, hb⟩; have HB1 := hide hb; clear hb))
            go_ret
            exact ⟨by rw [← unhide HL]; rfl, unhide HB1⟩
theorem rep_zer : ∀ k : Nat, Lib.repeatL [48] k = List.replicate k 48
  | 0 => rfl
  | k + 1 => by
    show [48] ++ Lib.repeatL [48] k = _
    rw [rep_zer k]; rfl
theorem repeat_zer (k : Nat) (W : World) (hk : k ≤ 600) : Calls Tryz.prog 104 #[.string ⟨#[48]⟩, .int .i64 (k : Int)] W fun e w' => e = .returned (.string (zer k)) ∧ Below W.heap.size W w' := by
  have h := Tryz.strings_Repeat ⟨#[48]⟩ k W (by omega) (by show 1 * k ≤ _; omega)
  rw [show Lib.repeatL (⟨#[48]⟩ : ByteArray).data.toList k = List.replicate k 48 from rep_zer k] at h
  exact h
theorem itoa_tx (k : Nat) (W : World) (hk : k ≤ 600) (ht : Tab W) : Calls Tryz.prog 105 #[.int .i64 (k : Int)] W fun e w' => e = .returned (.string (tx k)) ∧ Below W.heap.size W w' := by
  have h := Tryz.strconv_Itoa (k : Int) (by omega) (by omega) W ht
  rw [Lib.itoa_nonneg] at h
  refine h.mono ?_
  rintro e w' ⟨rfl, n, os, rfl⟩
  exact ⟨rfl, Lib.below_grow _ W (Nat.le_refl _) n os⟩
theorem laid_any (T : ByteArray) (n : Int) (w : World) (hT1 : 1 ≤ T.size) (hT2 : T.size ≤ 20) (hn1 : -500 ≤ n) (hn2 : n ≤ 500) (ht : Tab w) : Calls Tryz.prog 55 #[.string T, .int .i64 n] w fun e w' => e = .returned (.string (laidT T n)) ∧ Below w.heap.size w w' :=
  laid_walk T n w (by omega) (by omega) hn1 hn2 (fun k W hk => repeat_zer k W hk) (fun k W hk hb => itoa_tx k W hk (ht.later hb))
end Go.Proofs.YtijifpbpjinmhaaGreatDoor
namespace Go.Proofs.YtijifpbpjinmhaaGreatDoor
open Go.RowKit Go.Maps Go.ChangeMaps Go.WideMaps
attribute [local go_sem] run_bits run_from
theorem text_walk (f : Nat) (sb : Bool) (P : ByteArray → Int → Prop) (L : ByteArray → Int → ByteArray) (w : World) (htab : Tab w)
    (HSH : ∀ W : World, Tab W → Calls Tryz.prog 56 #[.float .f64 f] W fun e w' => (∃ (T : ByteArray) (n : Int), P T n ∧ e = .returned (.tuple #[.string T, .int .i64 n])) ∧ Below W.heap.size W w')
    (HLA : ∀ (T : ByteArray) (n : Int) (W : World), P T n → Tab W → Calls Tryz.prog 55 #[.string T, .int .i64 n] W fun e w' => e = .returned (.string (L T n)) ∧ Below W.heap.size W w')
    (HLS : ∀ (T : ByteArray) (n : Int), P T n → (L T n).size ≤ 1000)
    (HSB : ∀ W : World, Calls Tryz.prog 57 #[.float .f64 f] W fun e w' => e = .returned (.bool sb) ∧ w' = W)
    (HOW : ∀ (b : Nat), (b = 9221120237041090561 ∨ b = 9218868437227405312 ∨ b = 18442240474082181120) → ∀ W : World, Calls Tryz.prog 20 #[.float .f64 f, .float .f64 b] W fun e w' => ∃ q : Int, q ≠ 0 ∧ e = .returned (.int .i64 q) ∧ w' = W) :
    Calls Tryz.prog 18 #[.float .f64 f] w fun r w' => (∃ (T : ByteArray) (n : Int), P T n ∧ r = .returned (.string (if sb then ⟨#[45]⟩ ++ L T n else L T n))) ∧ Below w.heap.size w w' := by
  have HTAB := hide htab
  clear htab
  obtain ⟨g, hg⟩ : ∃ g, g = w.heap.size := ⟨_, rfl⟩
  have HG0 : Hid (g = w.heap.size) := hg
  clear hg
  have HW : Hid (Calls Tryz.prog 43 #[] w fun r w' => r = .returned (.map (some g)) ∧ w'.ownsMap Tryz.prog 9 wR g 3 (wD 3) ∧ Below w.heap.size w w') := by rw [unhide HG0]; exact words_any w
  have HS : Hid (∀ W, Below w.heap.size w W → Calls Tryz.prog 56 #[.float .f64 f] W fun e w' => (∃ (T : ByteArray) (n : Int), P T n ∧ e = .returned (.tuple #[.string T, .int .i64 n])) ∧ Below W.heap.size W w') := fun W hW => HSH W ((unhide HTAB).later hW)
  have GLA := hide HLA
  have GLS := hide HLS
  have GSB := hide HSB
  have GOW := hide HOW
  clear HSH HLA HLS HSB HOW
  go_enter Tryz.func18, Tryz.ntmps18
  go_wp2_with (first
    | (go_at_call 43; go_must (refine (unhide HW).mono ?_; rintro e w1 ⟨rfl, hown, hb⟩; have HO := hide hown; have HB := hide hb; clear hown hb))
    | (at_range; refine wpList_range_own _ rfl _ 70 rfl 9 24 (string_keyed Tryz.underlying9) underM wR g 3 (wD 3) rfl (unhide HO) ?_; intro w3 hrg hgr hsz; go_frame))
  have HRG : Hid (w3.ranges Tryz.prog 9 wR g w1.heap.size 3 (wD 3) (Maps.has (wD 3)) (Maps.size (wD 3))) := hrg
  have HB3 : Hid (Below w.heap.size w w3 ∧ w1.heap.size < w3.heap.size) := ⟨(unhide HB).grown hgr (unhide HB).size (fun j hj => by cases hj), by omega⟩
  clear hrg hgr hsz
  go_loopw [3, 4] (fun _ _ wr => ∃ (left : Lit → Bool) (cnt : Nat), Hid (wr.ranges Tryz.prog 9 wR g w1.heap.size 3 (wD 3) left cnt) ∧ Hid (∀ kl, left kl = true → Maps.has (wD 3) kl = true) ∧ Hid (Below w.heap.size w wr)) (fun _ _ wr => wr.rangeLeft g w1.heap.size)
  case atStart => exact ⟨_, _, HRG, fun _ h => h, (unhide HB3).1⟩
  case round =>
    obtain ⟨left, cnt, HG, HL, HBr⟩ := hrel
    go_wp2_with (at_next; go_loud (refine wpList_next_ranges _ rfl _ rfl 9 (string_keyed Tryz.underlying9) wR (fun x : ByteArray => .string x) (fun v : Value => v) (fun key kl h => keyOf_string_inv Tryz.underlying9 h) (fun v y _ => ⟨v, rfl⟩) g w1.heap.size 3 (wD 3) left cnt rfl (unhide HG) ?_ ?_))
    · intro _ hl0
      clear hl0 HL HG
      go_wp2_with (go_at_call 56; go_must (refine (unhide HS _ (unhide HBr)).mono ?_; rintro e w5 ⟨⟨T, n, hP, rfl⟩, hb⟩; have HB5 := hide ((unhide HBr).trans (hb.mono (unhide HBr).size)); have HP := hide hP; clear hb hP))
      have hls := unhide GLS T n (unhide HP)
      have HLL := hide (fun W (h : Tab W) => unhide GLA T n W (unhide HP) h)
      generalize hLT : L T n = LT at *
      have hE : Hid (∀ r : Value, r = .string (if sb then ⟨#[45]⟩ ++ LT else LT) → ∃ (T : ByteArray) (n : Int), P T n ∧ r = .string (if sb then ⟨#[45]⟩ ++ L T n else L T n)) := fun r hr => ⟨T, n, unhide HP, by rw [hLT]; exact hr⟩
      clear hLT
      have s1 : (9223372036854775807 < (⟨#[45]⟩ : ByteArray).size + LT.size) = False := eq_false (by show ¬ 9223372036854775807 < 1 + LT.size; omega)
      have s2 : (9223372036854775807 < 1 + LT.size) = False := eq_false (by omega)
      cases sb
      · go_wp2_with (first
          | (go_at_call 55; go_must (refine (unhide HLL _ ((unhide HTAB).later (unhide HB5))).mono ?_; rintro e w6 ⟨rfl, hb⟩; have HB6 := hide ((unhide HB5).trans (hb.mono (unhide HB5).size)); clear hb))
          | (go_at_call 57; go_must (refine (unhide GSB _).mono ?_; rintro e w7 ⟨rfl, hw6⟩; have hw7 := hw6.symm; subst hw7; clear hw6)))
        go_ret
        obtain ⟨T', n', h1, h2⟩ := unhide hE (.string LT) (by simp)
        exact ⟨⟨T', n', h1, congrArg Ending.returned h2⟩, unhide HB6⟩
      · go_wp2_with (first
          | (go_at_call 55; go_must (refine (unhide HLL _ ((unhide HTAB).later (unhide HB5))).mono ?_; rintro e w6 ⟨rfl, hb⟩; have HB6 := hide ((unhide HB5).trans (hb.mono (unhide HB5).size)); clear hb))
          | (go_at_call 57; go_must (refine (unhide GSB _).mono ?_; rintro e w7 ⟨rfl, hw6⟩; have hw7 := hw6.symm; subst hw7; clear hw6)))
        go_ret
        obtain ⟨T', n', h1, h2⟩ := unhide hE (.string (⟨#[45]⟩ ++ LT)) (by simp)
        exact ⟨⟨T', n', h1, congrArg Ending.returned h2⟩, unhide HB6⟩
    · intro x v kl d ps w4 cnt4 hkx hlx hv hat hrg4 hlt hg4 hs4 hen
      obtain ⟨b, rfl, hb3⟩ := word_left (y := (d, ps)) ((unhide HL) kl hlx) hv hat
      have HB4 : Hid (Below w.heap.size w w4) := (unhide HBr).grown hg4 (unhide HBr).size (fun j hj => by cases hj; exact (unhide HB).size)
      have HORD : Hid (∀ W, Calls Tryz.prog 20 #[.float .f64 f, .float .f64 b] W fun e w' => ∃ q : Int, q ≠ 0 ∧ e = .returned (.int .i64 q) ∧ w' = W) := unhide GOW b hb3
      have HG4 := hide hrg4
      have HLT : Hid (cnt4 < cnt) := hlt
      have HL1 : Hid (∀ z, (left z && !z.sameKey kl) = true → Maps.has (wD 3) z = true) := fun z h => (unhide HL) z (by simp at h; exact h.1)
      clear hrg4 hlt hkx hlx hv hat hg4 hs4 hb3
      go_wp2_with (go_at_call 20; go_must (refine (unhide HORD _).mono ?_; rintro e w6 ⟨q, hq, rfl, hw6⟩; have hw7 := hw6.symm; subst hw7; clear hw6))
      go_roundw
      case rel => exact ⟨_, _, HG4, HL1, HB4⟩
      case measure => rw [(unhide HG4).left_eq, (unhide HG).left_eq]; exact unhide HLT
end Go.Proofs.YtijifpbpjinmhaaGreatDoor
namespace Go.Proofs.YtijifpbpjinmhaaGreatDoor
open Go.RowKit
attribute [local go_sem] run_bits run_from
theorem signbit_any (b : Bool) (u : Nat) (hu : u < 9218868437227405312) (w : World) : Calls Tryz.prog 57 #[.float .f64 (sgw b u)] w fun e w' => e = .returned (.bool b) ∧ w' = w := by
  have hlt := sgw_lt b u hu
  have hd : decide (wrap64 ((sgw b u : Nat) : Int) < 0) = b := by
    unfold wrap64 sgw
    cases b
    · exact decide_eq_false (by simp; omega)
    · exact decide_eq_true (by simp; omega)
  clear hlt
  generalize sgw b u = f at *
  go_enter Tryz.func57, Tryz.ntmps57
  go_wp2
  go_ret
  exact ⟨by simp, rfl⟩
theorem cmpN_ne (a b : Nat) (h : a ≠ b) : Cub.cmpN a b ≠ 0 := by
  unfold Cub.cmpN
  split
  · decide
  · split
    · decide
    · omega
theorem words_away (b : Bool) (u : Nat) (hu : u < 9218868437227405312) (v : Nat) (h : v = 9221120237041090561 ∨ v = 9218868437227405312 ∨ v = 18442240474082181120) (W : World) : Calls Tryz.prog 20 #[.float .f64 (sgw b u), .float .f64 v] W fun e w' => ∃ q : Int, q ≠ 0 ∧ e = .returned (.int .i64 q) ∧ w' = W := by
  have hr := rk_sgw b u hu
  have h1 : rk 9221120237041090561 = 18446744073709551615 ∧ rk 9218868437227405312 = 18442240474082181120 ∧ rk 18442240474082181120 = 4503599627370495 := by decide +kernel
  have hne : Cub.cmpN (rk (sgw b u)) (rk v) ≠ 0 := by
    refine cmpN_ne _ _ ?_
    rw [hr]
    rcases h with rfl | rfl | rfl
    · rw [h1.1]; split <;> omega
    · rw [h1.2.1]; split <;> omega
    · rw [h1.2.2]; split <;> omega
  refine (order_any (sgw b u) v (sgw_lt b u hu) (by rcases h with rfl | rfl | rfl <;> decide) W).mono ?_
  rintro e w' ⟨rfl, hw⟩
  exact ⟨_, hne, rfl, hw⟩
theorem shortest_zero (b : Bool) (w : World) : Calls Tryz.prog 56 #[.float .f64 (sgw b 0)] w fun e w' => e = .returned (.tuple #[.string ⟨#[48]⟩, .int .i64 1]) ∧ Below w.heap.size w w' := by
  have h0 : (FloatKind.f64.format.order (sgw b 0) 0 == some Ordering.eq) = true := by
    rw [eq_zero (sgw b 0) (by rw [sgw_mod b 0 (by decide)]; decide), sgw_mod b 0 (by decide)]; rfl
  have HB : Hid (Below w.heap.size w w) := Below.refl _ _
  generalize sgw b 0 = f at *
  go_enter Tryz.func56, Tryz.ntmps56
  go_wp2
  go_ret2
  exact ⟨rfl, unhide HB⟩
/-- The digits and the exponent of a float's text. -/
def PT (u : Nat) (T : ByteArray) (n : Int) : Prop := (u = 0 ∧ T = ⟨#[48]⟩ ∧ n = 1) ∨ (0 < u ∧ ∃ (n0 : Int) (k d : Nat), ShortP u n0 k d ∧ ((k < (tb d).size ∧ T = ⟨#[49]⟩ ∧ n = n0 + 1) ∨ (¬ k < (tb d).size ∧ T = tb d ∧ n = n0)))
theorem tb_size_eq (d : Nat) (h : d < 10 ^ 600) : (tb d).size = Lib.nDigits d := by
  have h1 := tb_list d h
  have h2 : (tb d).data.toList.length = (tb d).size := by simp
  rw [← h2, h1, Lib.decDigits_length]
theorem ten17 (d k : Nat) (hk : k ≤ 17) (h : d ≤ 10 ^ k) : d < 10 ^ 18 ∧ d < 10 ^ 600 := by
  have h1 : (10 : Nat) ^ k ≤ 10 ^ 17 := Nat.pow_le_pow_right (by decide) hk
  have h2 : (10 : Nat) ^ 17 < 10 ^ 18 := by decide
  obtain ⟨K, hK⟩ : ∃ K, K = 600 := ⟨_, rfl⟩
  have h3 : (10 : Nat) ^ 18 ≤ 10 ^ K := Nat.pow_le_pow_right (by decide) (by omega)
  rw [← hK]
  exact ⟨by omega, by omega⟩
theorem PT.size {u : Nat} {T : ByteArray} {n : Int} (h : PT u T n) : 1 ≤ T.size ∧ T.size ≤ 18 ∧ -500 ≤ n ∧ n ≤ 500 := by
  rcases h with ⟨_, rfl, rfl⟩ | ⟨_, n0, k, d, hs, h⟩
  · exact ⟨by decide, by decide, by decide, by decide⟩
  · obtain ⟨s1, s2, s3, s4, s5, s6, _⟩ := hs
    obtain ⟨d1, d2⟩ := ten17 d k s2 s6
    rcases h with ⟨_, rfl, rfl⟩ | ⟨_, rfl, rfl⟩
    · exact ⟨by decide, by decide, by omega, by omega⟩
    · rw [tb_size_eq d d2]
      exact ⟨nD_pos d, nD_le d 18 (by decide) d1, by omega, by omega⟩
theorem zer_size (k : Nat) : (zer k).size = k := by unfold zer; simp [ByteArray.size]
theorem laidT_size (T : ByteArray) (n : Int) (h1 : T.size ≤ 18) (h2 : -500 ≤ n) (h3 : n ≤ 500) : (laidT T n).size ≤ 1000 := by
  unfold laidT
  split
  · rw [ByteArray.size_append, zer_size]; omega
  · split
    · rw [ByteArray.size_append, ByteArray.size_append, ByteArray.size_extract, ByteArray.size_extract]
      show _ + 1 + _ ≤ 1000
      omega
    · split
      · rw [ByteArray.size_append, ByteArray.size_append, zer_size]
        show 2 + _ + _ ≤ 1000
        omega
      · rw [ByteArray.size_append, ByteArray.size_append]
        have hx : ∀ k : Nat, k ≤ 600 → (tx k).size ≤ 3 := fun k hk => tx_size (by decide) (by omega)
        have h4 : (tx (if 0 < n then n - 1 else 1 - n).toNat).size ≤ 3 := hx _ (by split <;> omega)
        have h5 : (if 0 < n then (⟨#[101, 43]⟩ : ByteArray) else ⟨#[101, 45]⟩).size = 2 := by split <;> rfl
        have h6 : (if 1 < (T.size : Int) then T.extract 0 1 ++ (⟨#[46]⟩ ++ T.extract 1 T.size) else T.extract 0 1).size ≤ 30 := by
          split
          · rw [ByteArray.size_append, ByteArray.size_append, ByteArray.size_extract, ByteArray.size_extract]
            show _ + (1 + _) ≤ 30
            omega
          · rw [ByteArray.size_extract]; omega
        omega
/-- A finite float's text. -/
theorem text_fin (b : Bool) (u : Nat) (hu : u < 9218868437227405312) (w : World) (htab : Tab w) :
    Calls Tryz.prog 18 #[.float .f64 (sgw b u)] w fun r w' => (∃ (T : ByteArray) (n : Int), PT u T n ∧ r = .returned (.string (if b then ⟨#[45]⟩ ++ laidT T n else laidT T n))) ∧ Below w.heap.size w w' := by
  refine text_walk (sgw b u) b (PT u) laidT w htab ?_ ?_ ?_ (fun W => signbit_any b u hu W) (fun v hv W => words_away b u hu v hv W)
  · intro W hW
    rcases Nat.eq_zero_or_pos u with h0 | h0
    · subst h0
      refine (shortest_zero b W).mono ?_
      rintro e w' ⟨rfl, hb⟩
      exact ⟨⟨⟨#[48]⟩, 1, Or.inl ⟨rfl, rfl, rfl⟩, rfl⟩, hb⟩
    · refine (shortest_any b u h0 hu W hW).mono ?_
      rintro e w' ⟨⟨n, k, d, hs, rfl⟩, hb⟩
      refine ⟨?_, hb⟩
      by_cases hk : k < (tb d).size
      · exact ⟨⟨#[49]⟩, n + 1, Or.inr ⟨h0, n, k, d, hs, Or.inl ⟨hk, rfl, rfl⟩⟩, by rw [if_pos hk]⟩
      · exact ⟨tb d, n, Or.inr ⟨h0, n, k, d, hs, Or.inr ⟨hk, rfl, rfl⟩⟩, by rw [if_neg hk]⟩
  · intro T n W hP hW
    obtain ⟨s1, s2, s3, s4⟩ := hP.size
    exact laid_any T n W s1 (by omega) s3 s4 hW
  · intro T n hP
    obtain ⟨s1, s2, s3, s4⟩ := hP.size
    exact laidT_size T n s2 s3 s4
end Go.Proofs.YtijifpbpjinmhaaGreatDoor
