/- Fracs by their values. -/
import Derived.Test.YtijifpbpjinmhaaGreatDoorLong
import Derived.WalkMore
import Derived.Test.YtijifpbpjinmhaaGreatDoorGcdMath2
import Derived.Test.YtijifpbpjinmhaaGreatDoorGuess
import Derived.Test.YtijifpbpjinmhaaGreatDoorBigOf
import Derived.Deep.RegionHeld3
set_option maxHeartbeats 2000000
set_option maxRecDepth 100000
namespace Go.Proofs.YtijifpbpjinmhaaGreatDoor
open Go.RowKit
theorem splice_fit (l : List Nat) (n : Nat) : splice (u64s (List.replicate n 0)) 0 (u64s l) = u64s (l ++ List.replicate (n - l.length) 0) := by
  unfold splice u64s
  simp
theorem field60 (a : Option Addr) (n c : Nat) (w : World) : (Instr.field 51 (.agg #[.slice a n c]) 0).run Tryz.prog w = .ok (.slice a n c) w := by kernel_rfl
theorem lval_pad (l : List Nat) (k : Nat) : Cub.lval 1000000000 (l ++ List.replicate k 0) = Cub.lval 1000000000 l := by
  rw [Cub.lval_append, Cub.lval_zeros, Nat.mul_zero, Nat.add_zero]
theorem long_start {M Y np nd : Nat} {lm : List Nat} (hl : lm.length ≤ np + 1) (hlim : Cub.limbs 1000000000 lm) (hv : Cub.lval 1000000000 lm = M) (h : M < Y * 1000000000 ^ nd) :
    Cub.LongInv M Y (np + 1) nd (lm ++ List.replicate (np + 1 - lm.length) 0) (List.replicate nd 0) nd := by
  refine ⟨by simp; omega, by simp, Cub.limbs_append.2 ⟨hlim, Cub.limbs_zeros _ _ (by decide)⟩, Cub.limbs_zeros _ _ (by decide), fun k hk => ?_, ?_, ?_⟩
  · simp [List.getD, hk]
  · rw [lval_pad, Cub.lval_zeros, Nat.mul_zero, Nat.add_zero, hv]
  · rw [lval_pad, hv]; exact h
theorem getD_at (l : List Nat) (i : Nat) (h : i < l.length) : l.getD i 0 = l[i] := by
  rw [List.getD_eq_getElem?_getD, List.getElem?_eq_getElem h]; rfl
theorem win_getD (R : List Nat) (t k i : Nat) (hi : i < k) : ((R.drop t).take k).getD i 0 = R.getD (t + i) 0 := by
  rw [List.getD_eq_getElem?_getD, List.getD_eq_getElem?_getD, List.getElem?_take, if_pos hi, List.getElem?_drop]
theorem long_guess {M Y nr nd r t : Nat} {R D ly : List Nat} (h : Cub.LongInv M Y nr nd R D (t + 1)) (hr : 1 ≤ r) (hl : ly.length = r + 1) (hlim : Cub.limbs 1000000000 ly) (hv : Cub.lval 1000000000 ly = Y) (ht : t + (r + 1) + 1 ≤ nr) :
    Cub.lval 1000000000 ((R.drop t).take (r + 1 + 1)) / Y * ly.getD r 0 ≤ R.getD (t + (r + 1)) 0 * 1000000000 + R.getD (t + r) 0 ∧
    Cub.lval 1000000000 ((R.drop t).take (r + 1 + 1)) / Y * (ly.getD r 0 * 1000000000 + ly.getD (r - 1) 0) ≤ (R.getD (t + (r + 1)) 0 * 1000000000 + R.getD (t + r) 0) * 1000000000 + R.getD (t + (r - 1)) 0 := by
  have hR := h.lenR
  have b := Cub.guess_bound (nc := r + 1) (W := (R.drop t).take (r + 1 + 1)) (Y := ly) (q := Cub.lval 1000000000 ((R.drop t).take (r + 1 + 1)) / Y) (by omega) (by rw [List.length_take, List.length_drop]; omega) hl (Cub.limbs_take (Cub.limbs_drop h.limR _) _) hlim (by rw [hv]; exact Nat.div_mul_le_self _ _)
  rw [win_getD R t (r + 1 + 1) (r + 1) (by omega), win_getD R t (r + 1 + 1) (r + 1 - 1) (by omega), win_getD R t (r + 1 + 1) (r + 1 - 2) (by omega)] at b
  rw [show r + 1 - 1 = r by omega, show r + 1 - 2 = r - 1 by omega] at b
  exact b
theorem take_zero {n : Nat} {F : List Nat} {T Y W m : Nat} (hlim : Cub.limbs 1000000000 F) (hl : F.length = n) (h : Cub.lval 1000000000 F + T * Y = W + 1000000000 ^ n * m) : m = 0 ↔ T * Y ≤ W := by
  have h1 := Cub.lval_lt hlim
  rw [hl] at h1
  constructor
  · intro e; subst e; omega
  · intro hle
    rcases Nat.eq_zero_or_pos m with h0 | h0
    · exact h0
    · have : 1000000000 ^ n * 1 ≤ 1000000000 ^ n * m := Nat.mul_le_mul_left _ h0
      omega
theorem splice_win (N W : List Nat) (h : N.length = W.length) : splice (u64s N) 0 (u64s W) = u64s W := by
  unfold splice u64s
  simp [h]
theorem splice_at (R F : List Nat) (t : Nat) : splice (u64s R) t (u64s F) = u64s (R.take t ++ (F ++ R.drop (t + F.length))) := by
  unfold splice u64s
  simp [List.map_take, List.map_drop]
theorem Own.src {w : World} {g : Nat} {l : List Nat} (h : Own w g l) : ∀ j v, (u64s l)[j]? = some v → w.cell? ((⟨g, 0, none⟩ : Addr).add j) = some v := fun j v hv => by
  have hj : j < l.length := by
    have := (List.getElem?_eq_some_iff.1 hv).1
    rwa [u64s_length] at this
  rw [u64s_get l j hj, Option.some.injEq] at hv
  rw [Lib.add_plain, Nat.zero_add, h.cell j hj, hv]
theorem cell_set_box {W : World} {p q : Addr} {u : Value} {k : IntKind} {z : Int} (h : W.cell? p = some (.int k z)) (hq : W.cell? q = some (.slice none 0 0)) : (W.setCell q u).cell? p = some (.int k z) := by
  rw [World.cell?_setCell_other _ _ _ _ (by intro e; rw [e, h] at hq; cases hq)]; exact h
theorem cell_set_keep' {W : World} {p q : Addr} {v u : Value} (h : W.cell? p = some v) (hne : q ≠ p) : (W.setCell q u).cell? p = some v := by
  rw [World.cell?_setCell_other _ _ _ _ hne]; exact h
theorem drew0 {W0 w' : World} (hb : Below W0.drew.heap.size W0.drew w') : Below W0.heap.size W0 w' := (Below.refl _ _).drew.trans hb
theorem scale_cast (top s : Nat) (hs : s = 1000000000 / (top + 1)) : (1000000000 : Int) / ((top : Int) + 1) = (s : Int) := by
  rw [hs, Int.natCast_ediv]; rfl
theorem long_any (m n k : Nat) (hk : k ≤ 500000) (hm : m < 1000000000 ^ k) (hn : 1000000000 ≤ n) (hle : n ≤ m) : LongOK m n := by
  intro w x y hx hy
  have HX := hide hx
  have HY := hide hy
  obtain ⟨ap, np, cp, rfl⟩ := hx.shape
  obtain ⟨aq, nq, cq, rfl⟩ := hy.shape
  obtain ⟨lp, hlp, hlpc, _, hnp, hvp, hcp⟩ := hx.at
  obtain ⟨lq, hlq, hlqc, _, hnq, hvq, hcq⟩ := hy.at
  have hk1 : np ≤ k := by rw [hlp]; exact Cub.len_le hnp (by rw [hvp]; exact hm)
  have hqp : nq ≤ np := by rw [hlp, hlq]; exact norm9_len_le hnp.1 hnq (by rw [hvp, hvq]; exact hle)
  have hq2 : 2 ≤ nq := by
    apply Decidable.byContradiction
    intro hc
    have h1 := Cub.lval_lt hnq.1
    have h2 : (1000000000 : Nat) ^ lq.length ≤ 1000000000 ^ 1 := Nat.pow_le_pow_right (by decide) (by omega)
    omega
  obtain ⟨r, hr⟩ : ∃ r, nq = r + 1 := ⟨nq - 1, by omega⟩
  obtain ⟨top, htop⟩ : ∃ top, top = lq.getD r 0 := ⟨_, rfl⟩
  obtain ⟨t1, t2, t3, t4, t5, t6⟩ := long_scale n top r lq hnq hvq (by omega) htop
  obtain ⟨s, hs⟩ : ∃ s, s = 1000000000 / (top + 1) := ⟨_, rfl⟩
  rw [← hs] at t3 t4 t5 t6
  have HSC := hide (scale_cast top s hs)
  have HTOP : Hid (∀ W, Below w.heap.size w W → ∃ b o, aq = some ⟨b, o, none⟩ ∧ W.cell? ⟨b, o + r, none⟩ = some (.int .u64 (top : Int))) := fun W hW => by
    obtain ⟨b, o, e, hcell⟩ := hcq W hW r (by omega)
    refine ⟨b, o, e, ?_⟩
    rw [hcell, htop, List.getD_eq_getElem?_getD, List.getElem?_eq_getElem (by omega)]; rfl
  have hMp : m < 1000000000 ^ np := by rw [← hvp, hlp]; exact Cub.lval_lt hnp.1
  have hM : m * s < 1000000000 ^ (np + 1) := by
    rw [Nat.pow_succ]
    exact Nat.lt_of_le_of_lt (Nat.mul_le_mul_right s (Nat.le_of_lt hMp)) (Nat.mul_lt_mul_of_pos_left t4 (Nat.pow_pos (by decide)))
  have hMY : m * s < n * s * 1000000000 ^ (np - nq + 1) := by
    have h1 : m * s < 1000000000 ^ np * s := Nat.mul_lt_mul_of_pos_right hMp t3
    have h2 : 1000000000 ^ r * s * 1000000000 ^ (np - nq + 1) ≤ n * s * 1000000000 ^ (np - nq + 1) := by
      refine Nat.mul_le_mul_right _ (Nat.mul_le_mul_right _ ?_)
      have h3 := Cub.normal_ge hnq (show lq ≠ [] by intro e; rw [e] at hlq; simp at hlq; omega)
      rw [hvq, ← hlq, show nq - 1 = r by omega] at h3
      exact h3
    have h4 : 1000000000 ^ r * s * 1000000000 ^ (np - nq + 1) = 1000000000 ^ np * s := by
      rw [Nat.mul_right_comm, ← Nat.pow_add]
      congr 2
      omega
    omega
  have H68 := hide (fun W => bigOf_any s W (by omega))
  have hB2 : m < 1000000000 ^ (k + 1) ∧ n < 1000000000 ^ (k + 1) ∧ s < 1000000000 ^ (k + 1) := by
    have h1 : (1000000000 : Nat) ^ k ≤ 1000000000 ^ (k + 1) := Nat.pow_le_pow_right (by decide) (by omega)
    have h2 : (1000000000 : Nat) ^ 1 ≤ 1000000000 ^ (k + 1) := Nat.pow_le_pow_right (by decide) (by omega)
    generalize (1000000000 : Nat) ^ k = A at *
    generalize (1000000000 : Nat) ^ (k + 1) = B at *
    omega
  have H54c := hide (fun W x y (hx : IsBig W x n) (hy : IsBig W y s) => mulS x y n s (n * s) (k + 1) W hx hy (by omega) hB2.2.1 hB2.2.2 rfl)
  have H54b := hide (fun W x y (hx : IsBig W x m) (hy : IsBig W y s) => mulS x y m s (m * s) (k + 1) W hx hy (by omega) hB2.1 hB2.2.2 rfl)
  have HFACT := hide (And.intro t5 (And.intro t6 (And.intro hM hMY)))
  have HEND : Hid (m * s / (n * s) = m / n ∧ m * s % (n * s) = m % n * s) := ⟨Nat.mul_div_mul_right _ _ t3, Nat.mul_mod_mul_right _ _ _⟩
  clear hx hy hlpc hlqc hnp hvp hcp hnq hvq hcq hlp hlq hB2 hM hMY hMp t5 t6 hs htop hm hn hle
  generalize n * s = Y at *
  generalize m * s = M at *
  obtain ⟨i0, hi, hz0, hz1, hz2⟩ := info_parts Tryz.info41
  subst hr
  obtain ⟨nd, rfl⟩ : ∃ nd, np = nd + r := ⟨np - r, by omega⟩
  have hnd : 1 ≤ nd := by omega
  go_enter Tryz.func198, Tryz.ntmps198
  obtain ⟨bq, oq, rfl, _⟩ := unhide HTOP w (Below.refl _ _)
  have hct : ∀ W, Below w.heap.size w W → W.cell? ⟨bq, oq + r, none⟩ = some (.int .u64 (top : Int)) := fun W hW => by
    obtain ⟨b, o, e, hc⟩ := unhide HTOP W hW
    simp only [Option.some.injEq, Addr.mk.injEq] at e
    obtain ⟨rfl, rfl, _⟩ := e
    exact hc
  have hct0 := hct _ (((((Below.refl w.heap.size w).alloc (Nat.le_refl _) (.cells #[.slice ap (nd + r) cp] 51)).alloc (by simp) (.cells #[.slice (some ⟨bq, oq, none⟩) (r + 1) cq] 51)).alloc (by simp; omega) (.cells #[.slice none 0 0] 51)).alloc (by simp; omega) (.cells #[.slice none 0 0] 51))
  have hf60 := field60
  go_wp2
  go_step3
  go_upto_region 2 with (go_at_call 73; go_must (rw [unhide HSC]; refine (unhide H68 _).mono ?_; rintro e w1 ⟨sa, sl, sc, rfl, hs1, hb1⟩; have HB1 := hide (res4 (hb1.mono (by simp))); have HS1 := hide hs1; have b1 := (unhide HB1).c1; have b0 := (unhide HB1).c0; have z1 := (unhide HB1).size; have l0 : w.heap.size < w1.heap.size := World.block_lt_of_cell? _ _ b0; have l1 : w.heap.size + 1 < w1.heap.size := World.block_lt_of_cell? _ _ b1; clear hs1 hb1))
  have HSA : Hid (IsBig (w1.alloc (.cells #[.slice sa sl sc] 51)) (.agg #[.slice sa sl sc]) s) := (unhide HS1).later ((Below.refl _ _).alloc (Nat.le_refl _) _)
  have HBA := hide ((unhide HB1).on ((Below.refl (w.heap.size + 4) w1).alloc z1 (.cells #[.slice sa sl sc] 51)))
  go_upto_region 3 with (go_at_call 99; go_must (refine (unhide H54c _ _ _ ((unhide HY).later (unhide HBA).below) (unhide HSA)).mono ?_; rintro e w2 ⟨ba, bl, bc, rfl, hy2, hb2⟩; have HB2 := hide ((unhide HBA).on (hb2.mono (unhide HBA).size)); have HS2 := hide ((unhide HSA).later hb2); have HY2 := hide hy2; have HT2 := hide hb2; have b0' := (unhide HB2).c0; clear hy2 hb2))
  obtain ⟨ly, hly, hlyc, hbcm, hny, hvy, hcy⟩ := (unhide HY2).at
  have hbl : bl = r + 1 := by rw [hly]; exact len_between hny hvy (unhide HFACT).2.1 (unhide HFACT).1
  subst hbl
  have HLY := hide (And.intro hly.symm (And.intro hny.1 hvy))
  have HCY := hide hcy
  have hypos : 0 < ly.getD r 0 := by
    obtain ⟨t, x, rfl⟩ := Cub.split_last (show ly ≠ [] by intro e; rw [e] at hly; simp at hly)
    obtain ⟨_, h2, _⟩ := Cub.normal_last hny
    have : t.length = r := by simp at hly; omega
    rw [← this]; simpa [List.getD] using h2
  clear hly hny hvy hcy
  have z2 : w1.heap.size < w2.heap.size := by have := (unhide HT2).size; simp at this; omega
  have cS2 : w2.cell? ⟨w1.heap.size, 0, none⟩ = some (.slice sa sl sc) := by
    rw [(unhide HT2).cell (p := ⟨w1.heap.size, 0, none⟩) (by simp)]; simp
  go_upto_region 4 with (at_make; go_must (refine wpList_make_full _ rfl _ _ 49 rfl w2.heap.size 41 i0 (.int .u64 0) 1 Tryz.underlying49 hi hz0 hz1 .i64 .i64 _ _ ((nd + r) + 1) rfl rfl (by omega) (by omega) (by rw [hz2]; omega) (by unfold maxLen; omega) (Nat.le_refl _) ?_; intro w3 hown3 hgrow3; rw [u64s_made] at hown3; have HO3 : Hid (Own w3 w2.heap.size (List.replicate ((nd + r) + 1) 0)) := Own.of_row hown3; have HT3 : Hid (Below w2.heap.size w2 w3) := (Below.refl _ _).grown hgrow3 (Nat.le_refl _) (fun k hk => by cases hk); have b3 := ((unhide HB2).on ((unhide HT3).mono (unhide HB2).size)).c0; have cS3 := ((unhide HT3).cell (p := ⟨w1.heap.size, 0, none⟩) z2).trans cS2; clear hown3 hgrow3))
  have HB3 := hide ((unhide HB2).on ((unhide HT3).mono (unhide HB2).size))
  have HS3 := hide ((unhide HS2).later (unhide HT3))
  go_upto_region 5 with (first
    | (go_at_call 99; go_must (refine (unhide H54b _ _ _ ((unhide HX).later (unhide HB3).below) (unhide HS3)).mono ?_; rintro e w4 ⟨da, dl, dc, rfl, hm4, hb4⟩; obtain ⟨lm, hlm, hlmc, hdcm, hnm, hvm, hcm⟩ := hm4.at; have hdl : dl ≤ (nd + r) + 1 := (by rw [hlm]; exact Cub.len_le hnm (by rw [hvm]; exact (unhide HFACT).2.2.1)); have HO4 := hide ((unhide HO3).later hb4 (unhide HO3).lt); have HT4 : Hid (Below w2.heap.size w2 w4) := (unhide HT3).trans (hb4.mono (unhide HT3).size); have HLM := hide (And.intro hlm (And.intro hnm.1 hvm)); have HCM := hide hcm; clear hm4 hb4 hlm hnm hvm hcm hlmc))
    | (refine wpList_copy_splice rfl _ _ 49 49 rfl 41 Tryz.underlying49 Tryz.size41 _ _ _ _ _ _ rfl rfl w2.heap.size 0 (u64s (List.replicate ((nd + r) + 1) 0)) 41 (unhide HO4) (u64s lm) (by rw [u64s_length, ← (unhide HLM).1]; exact (Nat.min_eq_left hdl).symm) (fun h0 => ⟨by simp, (unhide HCM).src (Below.refl _ _) (by rw [u64s_length] at h0; exact h0)⟩) (by rw [u64s_length, u64s_length, List.length_replicate, ← (unhide HLM).1]; omega) (u64s_one lm) w2.heap.size w4 (Below.refl _ _) (Nat.le_refl _) ?_; intro w5 hO5 hb5; rw [splice_fit] at hO5; have HO5 := hO5; have HT5 : Hid (Below w2.heap.size w2 w5) := (unhide HT4).trans hb5; clear hO5 hb5))
  have HI0 := hide (long_start (np := nd + r) (by rw [← (unhide HLM).1]; exact hdl) (unhide HLM).2.1 (unhide HLM).2.2 (show M < Y * 1000000000 ^ (nd) by have := (unhide HFACT).2.2.2; rwa [show nd + r - (r + 1) + 1 = nd by omega] at this))
  have HO5' : Hid (Own w5 w2.heap.size (lm ++ List.replicate ((nd + r) + 1 - lm.length) 0)) := unhide HO5
  generalize lm ++ List.replicate ((nd + r) + 1 - lm.length) 0 = R0 at *
  clear HO5 HLM HCM HO3 HO4
  go_upto_region 6 with (at_make; go_must (refine wpList_make_full _ rfl _ _ 49 rfl w5.heap.size 41 i0 (.int .u64 0) 1 Tryz.underlying49 hi hz0 hz1 .i64 .i64 _ _ (nd) rfl rfl (by omega) (by omega) (by rw [hz2]; omega) (by unfold maxLen; omega) (Nat.le_refl _) ?_; intro w6 hown6 hgrow6; rw [u64s_made] at hown6; have HO6 : Hid (Own w6 w5.heap.size (List.replicate (nd) 0)) := Own.of_row hown6; have HT6 : Hid (Below w5.heap.size w5 w6) := (Below.refl _ _).grown hgrow6 (Nat.le_refl _) (fun k hk => by cases hk); clear hown6 hgrow6))
  go_wp2_with (at_make; go_must (refine wpList_make_full _ rfl _ _ 49 rfl w6.heap.size 41 i0 (.int .u64 0) 1 Tryz.underlying49 hi hz0 hz1 .i64 .i64 _ _ (r + 1 + 1) rfl rfl (by omega) (by omega) (by rw [hz2]; omega) (by unfold maxLen; omega) (Nat.le_refl _) ?_; intro w7 hown7 hgrow7; rw [u64s_made] at hown7; have HO7 : Hid (Own w7 w6.heap.size (List.replicate (r + 1 + 1) 0)) := Own.of_row hown7; have HT7 : Hid (Below w6.heap.size w6 w7) := (Below.refl _ _).grown hgrow7 (Nat.le_refl _) (fun k hk => by cases hk); clear hown7 hgrow7))
  have g1 : w2.heap.size < w5.heap.size := (unhide HO5').lt
  have g2 : w5.heap.size < w6.heap.size := (unhide HO6).lt
  have HST : Hid (LongSt w2 w7 w5.heap.size w6.heap.size R0 (List.replicate nd 0) (List.replicate (r + 1 + 1) 0)) :=
    ⟨(unhide HT5).trans (((unhide HT6).mono (by omega)).trans ((unhide HT7).mono (by omega))), ((unhide HO5').below (unhide HT6) g1).below (unhide HT7) (by omega), (unhide HO6).below (unhide HT7) g2, unhide HO7⟩
  clear HO5' HO6 HO7 HT7 HT6 HT5 HT4 HT3 b3 cS3 b0 b1 b0' HB3 HS3 HSA HBA H54b H54c H68
  go_step3
  go_wp2
  obtain ⟨gb, ob, rfl, _⟩ := unhide HCY w2 (Below.refl _ _) 0 (by have := (unhide HLY).1; omega)
  have HCB : Hid (∀ W, Below w2.heap.size w2 W → ∀ i (hi : i < ly.length), W.cell? ⟨gb, ob + i, none⟩ = some (.int .u64 (ly[i] : Int))) := fun W hW i hi => by
    obtain ⟨b, o, e, hc⟩ := unhide HCY W hW i hi
    simp only [Option.some.injEq, Addr.mk.injEq] at e
    obtain ⟨rfl, rfl, _⟩ := e
    exact hc
  have hYpos : 0 < Y := by
    have h1 := (unhide HFACT).2.1
    have h2 : 0 < (1000000000 : Nat) ^ r := Nat.pow_pos (by decide)
    omega
  have hly1 : ly.getD r 0 < 1000000000 := by rw [getD_at ly r (by have := (unhide HLY).1; omega)]; exact (unhide HLY).2.1 _ (List.getElem_mem _)
  have hly2 : ly.getD (r - 1) 0 < 1000000000 := by rw [getD_at ly (r - 1) (by have := (unhide HLY).1; omega)]; exact (unhide HLY).2.1 _ (List.getElem_mem _)
  obtain ⟨ls, hls, _, _, hnls, hvls, hcls⟩ := (unhide HS2).at
  have hls1 : ls = [s] := by
    have h1 : ls.length ≤ 1 := Cub.len_le hnls (by rw [hvls, Nat.pow_one]; exact t4)
    cases ls with
    | nil => simp [Cub.lval] at hvls; omega
    | cons x l =>
      cases l with
      | nil => simp [Cub.lval] at hvls; rw [hvls]
      | cons y l => simp at h1
  subst hls1
  obtain ⟨gs, os, rfl, _⟩ := hcls w2 (Below.refl _ _) 0 (by simp)
  have hsl : sl = 1 := by rw [hls]; rfl
  subst hsl
  have HCS : Hid (∀ W, Below w2.heap.size w2 W → W.cell? ⟨w1.heap.size, 0, none⟩ = some (.slice (some ⟨gs, os, none⟩) 1 sc) ∧ W.cell? ⟨gs, os, none⟩ = some (.int .u64 (s : Int))) := fun W hW => by
    refine ⟨(hW.cell (p := ⟨w1.heap.size, 0, none⟩) z2).trans cS2, ?_⟩
    obtain ⟨b, o, e, hc⟩ := hcls W hW 0 (by simp)
    simp only [Option.some.injEq, Addr.mk.injEq] at e
    obtain ⟨rfl, rfl, _⟩ := e
    simpa using hc
  clear hls hnls hvls hcls HCY
  go_loopw [11] (fun t wr => ∃ (j : Nat) (R D N : List Nat), j ≤ nd ∧ t = .int .i64 ((j : Int) - 1) ∧ Hid (Cub.LongInv M Y (nd + r + 1) nd R D j) ∧ Hid (N.length = r + 1 + 1) ∧ Hid (LongSt w2 wr w5.heap.size w6.heap.size R D N)) (fun t _ => (intOf t + 1).toNat)
  case atStart => exact ⟨nd, R0, _, _, Nat.le_refl _, rfl, HI0, List.length_replicate .., HST⟩
  case round =>
    clear HST HI0
    obtain ⟨j, R, D, N, hj, rfl, HI, HN, HS⟩ := hrel
    by_cases hj0 : j = 0
    · subst hj0
      have HLAST : Hid (Cub.lval 1000000000 (Cub.trimN D) = m / n ∧ Cub.normal 1000000000 (Cub.trimN D) ∧ Cub.lval 1000000000 (Cub.trimN R) = m % n * s ∧ Cub.normal 1000000000 (Cub.trimN R)) := by
        obtain ⟨e1, e2⟩ := (unhide HI).last hYpos
        obtain ⟨u1, u2, _⟩ := Cub.lval_trim 1000000000 _ D rfl
        obtain ⟨v1, v2, _⟩ := Cub.lval_trim 1000000000 _ R rfl
        exact ⟨by rw [u1, e1]; exact (unhide HEND).1, u2 (unhide HI).limD, by rw [v1, e2]; exact (unhide HEND).2, v2 (unhide HI).limR⟩
      have HLEN := hide (And.intro (unhide HI).lenR (unhide HI).lenD)
      have hleft : m % n * s < 1000000000 ^ (nd + r + 1) := by
        rw [← (unhide HEND).2]
        exact Nat.lt_of_le_of_lt (Nat.mod_le _ _) (unhide HFACT).2.2.1
      have H82 := hide (fun W x (hx : IsBig W x (m % n * s)) => by
        have h := divShort_any x (m % n * s) s (nd + r + 1) W hx (by omega) hleft t3 t4
        rw [Nat.mul_div_cancel _ t3] at h
        exact h)
      have HB := hide ((unhide HB2).on ((unhide HS).old.mono (unhide HB2).size))
      obtain ⟨cs1, cs2⟩ := unhide HCS wr (unhide HS).old
      have s1 : w.heap.size + 4 ≤ w2.heap.size := (unhide HB2).size
      have s2 : w2.heap.size < wr.heap.size := (unhide HS).rest.lt
      clear hleft HI HN
      go_upto_region 16 with fail
      go_region_held3 (fun w' => w'.cell? ⟨w1.heap.size, 0, none⟩ = some (.slice (some ⟨gs, os, none⟩) 1 sc) ∧ w'.cell? ⟨gs, os, none⟩ = some (.int .u64 (s : Int))) (first | assumption | (refine ⟨?_, ?_⟩ <;> first | assumption | (refine cell_set_box ?_ ?_ <;> assumption) | (simp [go_sem, *]; done)) | (refine cell_set_box ?_ ?_ <;> assumption) | (simp [go_sem, *]; done))
        (first
          | (go_at_call 78; refine (trim_any _ R _ (((unhide HS).rest.row (nd + r + 1) (nd + r + 1) (unhide HLEN).1.symm (Nat.le_refl _) (by unfold maxLen; omega)).later ((Below.refl _ _).drew))).mono ?_; rintro e w8 ⟨v', rfl, hrow8, hb8⟩; obtain ⟨a8, cap8, rfl, hcap8⟩ := hrow8.form; have hb8' := drew0 hb8; have HR8 : Hid (IsBig w8 (.agg #[.slice a8 (Cub.trimN R).length cap8]) (m % n * s)) := ⟨_, _, rfl, hrow8, (unhide HLAST).2.2.2, (unhide HLAST).2.2.1⟩; have HT8 := hide hb8'; obtain ⟨cs8a, cs8b⟩ := unhide HCS w8 ((unhide HS).old.trans (hb8'.mono (unhide HS).old.size)); clear hrow8 hb8 hb8')
          | (go_at_call 197; refine (unhide H82 _ _ (unhide HR8)).mono ?_; rintro e w9 ⟨a1, n1, c1, a2, n2, c2, rfl, hq9, hl9, hb9⟩; have HT9 : Hid (Below wr.heap.size wr w9) := (unhide HT8).trans (hb9.mono (unhide HT8).size); have HL9 := hide hq9; have HB9 := hide ((unhide HB).on ((unhide HT9).mono (by omega))); have HS9 := hide ((unhide HS).later (unhide HT9)); obtain ⟨cs9a, cs9b⟩ := unhide HCS w9 (unhide HS9).old; have b9 := (unhide HB9).c3; have f9 := (unhide HB9).f3; have lt9 : w.heap.size + 1 + 1 + 1 < w9.heap.size := World.block_lt_of_cell? _ _ b9; clear hq9 hl9 hb9))
      all_goals (
        have HX9 : Hid (IsBig (w9.setCell ⟨w.heap.size + 1 + 1 + 1, 0, none⟩ (.slice a1 n1 c1)) (.agg #[.slice a1 n1 c1]) (m % n)) := (unhide HL9).box _ b9 (no_int _ _ _)
        have HD9 : Hid (Own (w9.setCell ⟨w.heap.size + 1 + 1 + 1, 0, none⟩ (.slice a1 n1 c1)) w5.heap.size D) := (unhide HS9).digs.setOther (by simp; omega)
        have e3 : (w9.setCell ⟨w.heap.size + 1 + 1 + 1, 0, none⟩ (.slice a1 n1 c1)).cell? ⟨w.heap.size + 1 + 1 + 1, 0, none⟩ = some (.slice a1 n1 c1) := World.cell?_setCell_same _ _ _ b9
        have e3f : (w9.setCell ⟨w.heap.size + 1 + 1 + 1, 0, none⟩ (.slice a1 n1 c1)).frozen? ⟨w.heap.size + 1 + 1 + 1, 0, none⟩ = false := by rw [World.frozen?_setCell]; exact f9
        have e2 : (w9.setCell ⟨w.heap.size + 1 + 1 + 1, 0, none⟩ (.slice a1 n1 c1)).cell? ⟨w.heap.size + 1 + 1, 0, none⟩ = some (.slice none 0 0) := by rw [World.cell?_setCell_other _ _ _ _ (by simp)]; exact (unhide HB9).c2
        have e2f : (w9.setCell ⟨w.heap.size + 1 + 1 + 1, 0, none⟩ (.slice a1 n1 c1)).frozen? ⟨w.heap.size + 1 + 1, 0, none⟩ = false := by rw [World.frozen?_setCell]; exact (unhide HB9).f2
        have HBB : Hid (Below w.heap.size w (w9.setCell ⟨w.heap.size + 1 + 1 + 1, 0, none⟩ (.slice a1 n1 c1))) := (unhide HB9).below.setCell (by simp; omega) _
        generalize w9.setCell ⟨w.heap.size + 1 + 1 + 1, 0, none⟩ (.slice a1 n1 c1) = wA at *
        go_upto_region 17 with fail
        go_region_held3 (fun w' => w'.cell? ⟨w.heap.size + 1 + 1 + 1, 0, none⟩ = some (.slice a1 n1 c1)) (first | assumption | (simp [go_sem, *]; done) | (refine cell_set_keep' ?_ ?_ <;> first | assumption | (simp; done)))
          (first
            | (go_at_call 78; refine (trim_any _ D _ (((unhide HD9).row nd nd (unhide HLEN).2.symm (Nat.le_refl _) (by unfold maxLen; omega)).later ((Below.refl _ _).drew))).mono ?_; rintro e wB ⟨v', rfl, hrowB, hbB⟩; obtain ⟨aB, capB, rfl, hcapB⟩ := hrowB.form; have hbB' := drew0 hbB; have HDB : Hid (IsBig wB (.agg #[.slice aB (Cub.trimN D).length capB]) (m / n)) := ⟨_, _, rfl, hrowB, (unhide HLAST).2.1, (unhide HLAST).1⟩; have HXB := hide ((unhide HX9).later hbB'); have HBC := hide ((unhide HBB).trans (hbB'.mono (unhide HBB).size)); obtain ⟨eB3, eB3f⟩ := box_later hbB' (g := w.heap.size + 1 + 1 + 1) (World.block_lt_of_cell? _ _ e3) e3 e3f; obtain ⟨eB2, eB2f⟩ := box_later hbB' (g := w.heap.size + 1 + 1) (World.block_lt_of_cell? _ _ e2) e2 e2f; clear hrowB hbB hbB'))
        all_goals (
          have hcC : (wB.setCell ⟨w.heap.size + 1 + 1, 0, none⟩ (.slice aB (Cub.trimN D).length capB)).cell? ⟨w.heap.size + 1 + 1 + 1, 0, none⟩ = some (.slice a1 n1 c1) := by
            rw [World.cell?_setCell_other _ _ _ _ (by simp)]; exact eB3
          have R1 := ((unhide HDB).box (.slice aB (Cub.trimN D).length capB) eB2 (no_int _ _ _)).box (.slice a1 n1 c1) hcC (no_int _ _ _)
          have R2 := ((unhide HXB).box (.slice aB (Cub.trimN D).length capB) eB2 (no_int _ _ _)).box (.slice a1 n1 c1) hcC (no_int _ _ _)
          have R3 := ((unhide HBC).setCell (p := ⟨w.heap.size + 1 + 1, 0, none⟩) (by simp; omega) (.slice aB (Cub.trimN D).length capB)).setCell (p := ⟨w.heap.size + 1 + 1 + 1, 0, none⟩) (by simp; omega) (.slice a1 n1 c1)
          go_wp2
          try rw [Exit.noGoto_ret]
          exact bodyPost_ret (v := .tuple #[.agg #[.slice aB (Cub.trimN D).length capB], .agg #[.slice a1 n1 c1]]) (by simp [results, Tryz.results198, go_sem, eB2, eB3]) rfl ⟨_, _, _, _, _, _, rfl, R1, R2, R3⟩))
    · obtain ⟨t, rfl⟩ : ∃ t, j = t + 1 := ⟨j - 1, by omega⟩
      have HWIN := hide ((unhide HI).window (nc := r + 1) (unhide HFACT).1 hYpos (by omega))
      have HGB := hide (long_guess (unhide HI) (by omega) (unhide HLY).1 (unhide HLY).2.1 (unhide HLY).2.2 (by omega))
      obtain ⟨Wl, hWl⟩ : ∃ Wl, Wl = (R.drop t).take (r + 1 + 1) := ⟨_, rfl⟩
      rw [← hWl] at HWIN HGB
      have HWL : Hid (Wl.length = r + 1 + 1 ∧ Cub.limbs 1000000000 Wl) := by
        rw [hWl]
        exact ⟨by rw [List.length_take, List.length_drop, (unhide HI).lenR]; omega, Cub.limbs_take (Cub.limbs_drop (unhide HI).limR _) _⟩
      have HWC : Hid (∀ W, Own W w2.heap.size R → ∀ i v, (u64s Wl)[i]? = some v → W.cell? ((⟨w2.heap.size, t, none⟩ : Addr).add i) = some v) := fun W hW i v hv => by
        have hil : i < Wl.length := by
          have := (List.getElem?_eq_some_iff.1 hv).1
          rwa [u64s_length] at this
        rw [u64s_get Wl i hil, Option.some.injEq] at hv
        have hlen := (unhide HWL).1
        have hRl := (unhide HI).lenR
        rw [Lib.add_plain, hW.cell (t + i) (by omega), ← hv]
        subst hWl
        rw [List.getElem_take, List.getElem_drop]
      have HR : Hid (∀ i (hi : i ≤ r + 1), wr.cell? ⟨w2.heap.size, t + i, none⟩ = some (.int .u64 (R.getD (t + i) 0 : Nat)) ∧ R.getD (t + i) 0 < 1000000000) := fun i hi => by
        have hRl := (unhide HI).lenR
        rw [getD_at R (t + i) (by omega)]
        exact ⟨(unhide HS).rest.cell (t + i) (by omega), (unhide HI).limR _ (List.getElem_mem _)⟩
      have HSTEP := hide (fun (F : List Nat) (hF : F.length = r + 1 + 1) (hlF : Cub.limbs 1000000000 F) (hv : Cub.lval 1000000000 F + Cub.lval 1000000000 Wl / Y * Y = Cub.lval 1000000000 Wl) => (unhide HI).step (nc := r + 1) (F := F) (q := Cub.lval 1000000000 Wl / Y) (unhide HFACT).1 hYpos (by omega) (by omega) hF hlF (by rw [← hWl]; exact hv) (by rw [← hWl]))
      obtain ⟨q, hq⟩ : ∃ q, q = Cub.lval 1000000000 Wl / Y := ⟨_, rfl⟩
      rw [← hq] at HWIN HGB HSTEP
      have HQ := hide hq
      have c2 := unhide HR (r + 1) (Nat.le_refl _)
      have c1 := unhide HR r (by omega)
      have c0 := unhide HR (r - 1) (by omega)
      have k1 := unhide HCB wr (unhide HS).old r (by have := (unhide HLY).1; omega)
      have k0 := unhide HCB wr (unhide HS).old (r - 1) (by have := (unhide HLY).1; omega)
      rw [← getD_at] at k1 k0
      have HG := hide (guess_any w2.heap.size t (r + 1) (nd + r + 1 - t) (some ⟨gb, ob, none⟩) bc (R.getD (t + (r - 1)) 0) (R.getD (t + r) 0) (R.getD (t + (r + 1)) 0) (ly.getD r 0) (ly.getD (r - 1) 0) gb ob wr (by omega) (by omega) (by omega) rfl c2.1 (by rw [show r + 1 - 1 = r by omega]; exact c1.1) (by rw [show r + 1 - 2 = r - 1 by omega]; exact c0.1) (by rw [show r + 1 - 1 = r by omega]; exact k1) (by rw [show r + 1 - 2 = r - 1 by omega]; exact k0) c0.2 c1.2 c2.2 hly1 hly2 hypos)
      clear c2 c1 c0 k1 k0 HR hWl hq
      rw [show (((t + 1 : Nat) : Int) - 1) = (t : Int) from by omega]
      have i1 : (t : Int) ≤ (t : Int) + ((r : Int) + 1) + 1 := by omega
      have i2 : (t : Int) + ((r : Int) + 1) + 1 ≤ (nd : Int) + (r : Int) + 1 := by omega
      have i3 : (t : Int) ≤ (nd : Int) + (r : Int) + 1 := by omega
      have i4 : ¬ nd + r + 1 = t := by omega
      have eW : t + (r + 1) + 1 - t = r + 1 + 1 := by omega
      have HEW := hide eW
      clear eW
      have HQB : Hid (q * Y ≤ Cub.lval 1000000000 Wl ∧ Cub.lval 1000000000 Wl < q * Y + Y) := by
        rw [unhide HQ]
        refine ⟨Nat.div_mul_le_self _ _, ?_⟩
        have h1 := Nat.div_add_mod (Cub.lval 1000000000 Wl) Y
        have h2 := Nat.mod_lt (Cub.lval 1000000000 Wl) hYpos
        rw [Nat.mul_comm] at h1
        omega
      go_wp2_with (go_at_call 223; go_must (rw [unhide HEW]; refine (unhide HG).mono ?_; rintro e w8 ⟨d0, rfl, hd0, hfew, hb8⟩; have HD0 : Hid (q ≤ d0) := hfew q (unhide HWIN).2.1 (unhide HGB).1 (unhide HGB).2; have HS8 := hide ((unhide HS).later hb8); clear hfew hb8))
      clear HS HG HGB
      go_loopw [12] (fun a wv => ∃ (d : Nat) (P : List Nat), a = .int .u64 (d : Int) ∧ d < 1000000000 ∧ Hid (q ≤ d) ∧ Hid (P.length = r + 1 + 1) ∧ Hid (LongSt w2 wv w5.heap.size w6.heap.size R D P)) (fun a _ => (intOf a).toNat)
      case atStart => exact ⟨d0, N, rfl, hd0, HD0, HN, HS8⟩
      case round =>
        clear HS8 HN HD0 hd0
        obtain ⟨d, P, rfl, hd, HQD, HP, HS⟩ := hrel
        have hlw := (unhide HWL).1
        have hlRR := (unhide HI).lenR
        have hlDD := (unhide HI).lenD
        have HLRD := hide (And.intro hlw (And.intro hlRR hlDD))
        clear hlw hlRR hlDD
        have HTA := hide (fun (W : World) (hO : Own W w6.heap.size Wl) (hold : Below w2.heap.size w2 W) => takeAway_any w6.heap.size (r + 1 + 1) (r + 1 + 1) Wl ly (some ⟨gb, ob, none⟩) (r + 1) bc d W hO (unhide HLRD).1.symm (by omega) (unhide HWL).2 (unhide HLY).1.symm (by omega) (unhide HLY).2.1 (Nat.le_refl _) hd (fun W' hW' i hi => ⟨gb, ob, rfl, unhide HCB W' (hold.trans (hW'.mono (by omega))) i hi⟩))
        have HN1 : Hid ((u64s Wl).length = Nat.min (nd + r + 1 - t) (r + 1 + 1)) := by
          rw [u64s_length, (unhide HLRD).1]; exact (Nat.min_eq_right (by omega)).symm
        have HN2 : Hid (0 + (u64s Wl).length ≤ (u64s P).length) := by
          rw [u64s_length, u64s_length, unhide HP, (unhide HLRD).1]; exact (by omega : 0 + (r + 1 + 1) ≤ r + 1 + 1)
        have HSW := hide (splice_win P Wl (by rw [unhide HP, (unhide HLRD).1]))
        by_cases hfit : d * Y ≤ Cub.lval 1000000000 Wl
        · have hdq : d = q := by
            have h1 := (unhide HQB).2
            have h2 := unhide HQD
            apply Decidable.byContradiction
            intro hne
            have h3 : (q + 1) * Y ≤ d * Y := Nat.mul_le_mul_right _ (by omega)
            rw [Nat.add_mul, Nat.one_mul] at h3
            omega
          have HDQ := hide hdq
          have HFIT := hide hfit
          clear hdq hfit HQD
          go_upto_region 14 with (first
            | ((refine wpList_copy_splice rfl (.tmp 68) (.tmp 71) 49 49 rfl 41 Tryz.underlying49 Tryz.size41 (some ⟨w6.heap.size, 0, none⟩) (some ⟨w2.heap.size, t, none⟩) (r + 1 + 1) (r + 1 + 1) (nd + r + 1 - t) (nd + r + 1 - t) rfl rfl w6.heap.size 0 (u64s P) 41 (unhide HS).win (u64s Wl) (unhide HN1) (fun _ => ⟨rfl, ⟨_, rfl, unhide HWC _ (unhide HS).rest⟩⟩) (unhide HN2) (u64s_one Wl) w6.heap.size wr (Below.refl _ _) (Nat.le_refl _) ?_; intro w9 hO9 hb9; rw [unhide HSW] at hO9; have HS9 := hide ((unhide HS).window (Nat.lt_trans g1 g2) g2 hb9 (unhide hO9)); clear hO9 hb9))
            | (go_at_call 199; go_must (refine (unhide HTA _ (unhide HS9).win (unhide HS9).old).mono ?_; rintro e w10 ⟨mi, F, rfl, hO10, hF10, hlF10, hv10, hmi10, hb10⟩; rw [(unhide HLY).2.2] at hv10; have hmi : mi = 0 := (take_zero hlF10 hF10 hv10).2 (unhide HFIT); subst hmi; have HS10 := hide ((unhide HS9).window (Nat.lt_trans g1 g2) g2 hb10 hO10); have HF10 := hide (And.intro hF10 (And.intro hlF10 hv10)); clear hO10 hF10 hlF10 hv10 hb10 hmi10)))
          have HI' : Hid (Cub.LongInv M Y (nd + r + 1) nd (R.take t ++ (F ++ R.drop (t + F.length))) (D.set t d) t) := by
            rw [(unhide HF10).1, unhide HDQ]
            refine unhide HSTEP F (unhide HF10).1 (unhide HF10).2.1 ?_
            have h1 := (unhide HF10).2.2
            rw [unhide HDQ, Nat.mul_zero, Nat.add_zero] at h1
            exact h1
          have HN3 : Hid ((u64s F).length = Nat.min (r + 1 + 1) (nd + r + 1 - t)) := by
            rw [u64s_length, (unhide HF10).1]; exact (Nat.min_eq_left (by omega)).symm
          have HN4 : Hid (t + (u64s F).length ≤ (u64s R).length) := by
            rw [u64s_length, u64s_length, (unhide HF10).1, (unhide HLRD).2.1]; exact (by omega : t + (r + 1 + 1) ≤ nd + r + 1)
          go_upto_region 15 with ((refine wpList_copy_far rfl (.tmp 80) (.tmp 81) 49 49 rfl 41 Tryz.underlying49 Tryz.size41 (some ⟨w2.heap.size, t, none⟩) (some ⟨w6.heap.size, 0, none⟩) (nd + r + 1 - t) (nd + r + 1 - t) (r + 1 + 1) (r + 1 + 1) rfl rfl w2.heap.size t (u64s R) 41 (unhide HS10).rest (u64s F) (unhide HN3) (fun _ => ⟨rfl, ⟨_, rfl, (unhide HS10).win.src⟩⟩) (unhide HN4) (u64s_one F) ?_; intro w11 hO11 hfar; rw [splice_at] at hO11; have HS11 := hide ((unhide HS10).fill (Nat.ne_of_lt (Nat.lt_trans g1 g2)) (Nat.ne_of_gt g1) (unhide hfar) (unhide hO11)); clear hO11 hfar))
          have hcd := (unhide HS11).digs.cell t (by rw [(unhide HLRD).2.2]; omega)
          have hfd := (unhide HS11).digs.frozen t
          have htn : (t : Int) < (nd : Int) := by omega
          have HS12 := hide ((unhide HS11).digit g1 (Nat.ne_of_lt g2) t d (d : Int) rfl)
          generalize D[t]'(by rw [(unhide HLRD).2.2]; omega) = dt at *
          go_wp2
          go_roundw
          case rel => exact ⟨t, R.take t ++ (F ++ R.drop (t + F.length)), D.set t d, F, by omega, by go_num, HI', (unhide HF10).1, HS12⟩
          case measure => simp [intOf]
        · have hd1 : 1 ≤ d := by
            rcases Nat.eq_zero_or_pos d with e | e
            · subst e; omega
            · exact e
          have HQD' : Hid (q ≤ d - 1) := by
            have h1 := (unhide HQB).1
            have h2 := unhide HQD
            have h3 : q ≠ d := by intro e; subst e; exact hfit h1
            exact (by omega : q ≤ d - 1)
          have HFIT := hide hfit
          clear hfit HQD
          go_wp2_with (first
            | ((refine wpList_copy_splice rfl (.tmp 68) (.tmp 71) 49 49 rfl 41 Tryz.underlying49 Tryz.size41 (some ⟨w6.heap.size, 0, none⟩) (some ⟨w2.heap.size, t, none⟩) (r + 1 + 1) (r + 1 + 1) (nd + r + 1 - t) (nd + r + 1 - t) rfl rfl w6.heap.size 0 (u64s P) 41 (unhide HS).win (u64s Wl) (unhide HN1) (fun _ => ⟨rfl, ⟨_, rfl, unhide HWC _ (unhide HS).rest⟩⟩) (unhide HN2) (u64s_one Wl) w6.heap.size wr (Below.refl _ _) (Nat.le_refl _) ?_; intro w9 hO9 hb9; rw [unhide HSW] at hO9; have HS9 := hide ((unhide HS).window (Nat.lt_trans g1 g2) g2 hb9 (unhide hO9)); clear hO9 hb9))
            | (go_at_call 199; go_must (refine (unhide HTA _ (unhide HS9).win (unhide HS9).old).mono ?_; rintro e w10 ⟨mi, F, rfl, hO10, hF10, hlF10, hv10, hmi10, hb10⟩; rw [(unhide HLY).2.2] at hv10; have hmi : ((mi : Int) == 0) = false := (by rw [beq_eq_false_iff_ne]; intro e; exact unhide HFIT ((take_zero hlF10 hF10 hv10).1 (by omega))); have HS10 := hide ((unhide HS9).window (Nat.lt_trans g1 g2) g2 hb10 hO10); have HF10 := hide hF10; clear hO10 hF10 hlF10 hv10 hb10 hmi10)))
          go_roundw
          case rel => exact ⟨d - 1, F, by go_num, by omega, HQD', HF10, HS10⟩
          case measure => simp [intOf]; omega
theorem divAns (k : Nat) (hk : k ≤ 100000) : DivAns k := fun W x y m n hx hy hm hn =>
  divMod_core x y m n k W hx hy (by omega) hm hn (fun h1 h2 => long_any m n k (by omega) hm h1 h2)
theorem divOK (k : Nat) (hk : k ≤ 100000) : DivOK k := divAns k hk
theorem gcdAns (k : Nat) (hk : k ≤ 100000) : GcdAns k := fun W x y m n hx hy hm hn => gcd_any x y m n k W hx hy hk hm hn (divOK k hk)
/-- A Frac that holds a number in its one form, its parts below 1000000000 ^ k. -/
def QOf (w : World) (v : Value) (x : Rat) (k : Nat) : Prop := ∃ b n d, IsFrac w v b n d ∧ Cub.Low b n d ∧ Cub.valQ b n d = x ∧ n < 1000000000 ^ k ∧ d < 1000000000 ^ k
theorem QOf.form {w : World} {v : Value} {x : Rat} {k : Nat} (h : QOf w v x k) : ∃ b a1 l1 c1 a2 l2 c2, v = .agg #[.bool b, .slice a1 l1 c1, .slice a2 l2 c2] := by
  obtain ⟨b, n, d, h1, _⟩ := h
  obtain ⟨a1, l1, c1, a2, l2, c2, rfl, _, _⟩ := h1.form
  exact ⟨b, a1, l1, c1, a2, l2, c2, rfl⟩
end Go.Proofs.YtijifpbpjinmhaaGreatDoor
