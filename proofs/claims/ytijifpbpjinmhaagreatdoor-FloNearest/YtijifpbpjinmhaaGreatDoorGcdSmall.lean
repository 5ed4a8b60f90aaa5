/- nat.gcdSmall, (Big).small, (Big).limb, (Big).first. -/
import Derived.Test.YtijifpbpjinmhaaGreatDoorMulMath
import Derived.Test.YtijifpbpjinmhaaGreatDoorCmpMath
import Derived.Deep.QuietTactic
import Derived.BigQuiet
import Derived.Test.YtijifpbpjinmhaaGreatDoorLimb2
import Derived.Test.YtijifpbpjinmhaaGreatDoorText
import Derived.Test.YtijifpbpjinmhaaGreatDoorOne
import Derived.WalkSmall
import Derived.Deep.Cut
import Derived.Deep.CutRange
import Derived.Deep.RegionWith
set_option maxHeartbeats 1000000
set_option maxRecDepth 100000
namespace Cub
theorem lval_split (B : Nat) (a : List Nat) (j : Nat) (h : j < a.length) : lval B a = lval B (a.take j) + B ^ j * (a[j] + B * lval B (a.drop (j + 1))) := by
  have e := lval_append B (a.take j) (a.drop j)
  rw [List.take_append_drop, List.length_take, Nat.min_eq_left (by omega), List.drop_eq_getElem_cons h] at e
  exact e
theorem cmp_at {B : Nat} {a b : List Nat} (ha : limbs B a) (hl : a.length = b.length) (j : Nat) (h : j < a.length) (hd : a.drop (j + 1) = b.drop (j + 1)) (hlt : a[j] < b[j]) : lval B a < lval B b := by
  rw [lval_split B a j h, lval_split B b j (by omega), hd]
  have h1 : lval B (a.take j) < B ^ j := by
    have := lval_lt (B := B) (l := a.take j) (fun z hz => ha z (List.mem_of_mem_take hz))
    rwa [List.length_take, Nat.min_eq_left (by omega)] at this
  have h2 : B ^ j * (a[j] + B * lval B (b.drop (j + 1)) + 1) ≤ B ^ j * (b[j] + B * lval B (b.drop (j + 1))) := Nat.mul_le_mul_left _ (by omega)
  rw [Nat.mul_add (B ^ j) (a[j] + B * lval B (b.drop (j + 1))) 1] at h2
  omega
theorem cmp_len {a b : List Nat} (ha : limbs 1000000000 a) (hb : normal 1000000000 b) (h : a.length < b.length) : lval 1000000000 a < lval 1000000000 b := by
  have h1 := lval_lt ha
  have hne : b ≠ [] := by intro e; rw [e] at h; simp at h
  have h2 := normal_ge hb hne
  have h3 : 1000000000 ^ a.length ≤ 1000000000 ^ (b.length - 1) := Nat.pow_le_pow_right (by decide) (by omega)
  omega
theorem cmpN_lt {m n : Nat} (h : m < n) : cmpN m n = -1 := if_pos h
theorem cmpN_gt {m n : Nat} (h : n < m) : cmpN m n = 1 := by unfold cmpN; rw [if_neg (by omega), if_pos h]
theorem cmpN_eq (m : Nat) : cmpN m m = 0 := by unfold cmpN; rw [if_neg (by omega), if_neg (by omega)]
end Cub
namespace Go.Proofs.YtijifpbpjinmhaaGreatDoor
open Go.RowKit
theorem isNaN64_any (a : Int) (w : World) : Calls Tryz.prog 114 #[.int .u64 a] w fun e w' => e = .returned (.bool false) ∧ w' = w := by
  go_enter Tryz.func114, Tryz.ntmps114
  go_wp2
  go_ret
  exact ⟨rfl, rfl⟩
theorem cmp64_any (a b : Nat) (w : World) :
    Calls Tryz.prog 60 #[.int .u64 (a : Int), .int .u64 (b : Int)] w fun e w' => e = .returned (.int .i64 (Cub.cmpN a b)) ∧ w' = w := by
  rcases Nat.lt_trichotomy a b with h | h | h
  · rw [Cub.cmpN_lt h]
    have h1 : (a : Int) < (b : Int) := by omega
    go_enter Tryz.func60, Tryz.ntmps60
    go_wp2_with (go_at_call 114; refine (isNaN64_any _ _).mono ?_; rintro e w' ⟨rfl, rfl⟩)
    go_ret
    exact ⟨rfl, rfl⟩
  · subst h
    rw [Cub.cmpN_eq]
    go_enter Tryz.func60, Tryz.ntmps60
    go_wp2_with (go_at_call 114; refine (isNaN64_any _ _).mono ?_; rintro e w' ⟨rfl, rfl⟩)
    go_ret
    exact ⟨rfl, rfl⟩
  · rw [Cub.cmpN_gt h]
    have h1 : (b : Int) < (a : Int) := by omega
    go_enter Tryz.func60, Tryz.ntmps60
    go_wp2_with (go_at_call 114; refine (isNaN64_any _ _).mono ?_; rintro e w' ⟨rfl, rfl⟩)
    go_ret
    exact ⟨rfl, rfl⟩
theorem isNaNi_any (a : Int) (w : World) : Calls Tryz.prog 205 #[.int .i64 a] w fun e w' => e = .returned (.bool false) ∧ w' = w := by
  go_enter Tryz.func205, Tryz.ntmps205
  go_wp2
  go_ret
  exact ⟨rfl, rfl⟩
theorem cmpi_any (a b : Nat) (w : World) :
    Calls Tryz.prog 172 #[.int .i64 (a : Int), .int .i64 (b : Int)] w fun e w' => e = .returned (.int .i64 (Cub.cmpN a b)) ∧ w' = w := by
  rcases Nat.lt_trichotomy a b with h | h | h
  · rw [Cub.cmpN_lt h]
    have h1 : (a : Int) < (b : Int) := by omega
    go_enter Tryz.func172, Tryz.ntmps172
    go_wp2_with (go_at_call 205; refine (isNaNi_any _ _).mono ?_; rintro e w' ⟨rfl, rfl⟩)
    go_ret
    exact ⟨rfl, rfl⟩
  · subst h
    rw [Cub.cmpN_eq]
    go_enter Tryz.func172, Tryz.ntmps172
    go_wp2_with (go_at_call 205; refine (isNaNi_any _ _).mono ?_; rintro e w' ⟨rfl, rfl⟩)
    go_ret
    exact ⟨rfl, rfl⟩
  · rw [Cub.cmpN_gt h]
    have h1 : (b : Int) < (a : Int) := by omega
    go_enter Tryz.func172, Tryz.ntmps172
    go_wp2_with (go_at_call 205; refine (isNaNi_any _ _).mono ?_; rintro e w' ⟨rfl, rfl⟩)
    go_ret
    exact ⟨rfl, rfl⟩
theorem cmp_any (x y : Value) (m n : Nat) (w : World) (hx : IsBig w x m) (hy : IsBig w y n) :
    Calls Tryz.prog 124 #[x, y] w fun e w' => e = .returned (.int .i64 (Cub.cmpN m n)) ∧ Below w.heap.size w w' := by
  obtain ⟨ap, lp, cp, rfl, hlp, hrp, hnp, rfl⟩ := hx.form
  obtain ⟨aq, lq, cq, rfl, hlq, hrq, hnq, rfl⟩ := hy.form
  have HP : Hid (Cub.normal 1000000000 lp ∧ Cells w ap lp) := ⟨hnp, hrp.cells.2.2.2⟩
  have HQ : Hid (Cub.normal 1000000000 lq ∧ Cells w aq lq) := ⟨hnq, hrq.cells.2.2.2⟩
  obtain ⟨np, hnp'⟩ : ∃ np, np = lp.length := ⟨_, rfl⟩
  obtain ⟨nq, hnq'⟩ : ∃ nq, nq = lq.length := ⟨_, rfl⟩
  rw [← hnp'] at hlp ⊢
  rw [← hnq'] at hlq ⊢
  have HNP := hide hnp'
  have HNQ := hide hnq'
  clear hx hy hrp hrq hnp hnq hnp' hnq'
  by_cases hne : np = nq
  · subst hne
    have C78 : Hid (∀ W, Calls Tryz.prog 172 #[.int .i64 (np : Int), .int .i64 (np : Int)] W fun e w' => e = .returned (.int .i64 0) ∧ w' = W) := fun W => by have h := cmpi_any np np W; rw [Cub.cmpN_eq] at h; exact h
    go_enter Tryz.func124, Tryz.ntmps124
    go_wp2_with (go_at_call 172; refine (unhide C78 _).mono ?_; rintro e w' ⟨rfl, rfl⟩)
    go_loopw [6] (fun t wr => ∃ j : Nat, j ≤ np ∧ t = .int .i64 ((j : Int) - 1) ∧ Hid (lp.drop j = lq.drop j) ∧ wr.cell? ⟨w.heap.size, 0, none⟩ = some (.slice ap np cp) ∧ wr.cell? ⟨w.heap.size + 1, 0, none⟩ = some (.slice aq np cq) ∧ Below w.heap.size w wr) (fun t _ => (intOf t + 1).toNat)
    case atStart => exact ⟨np, Nat.le_refl _, rfl, by rw [List.drop_of_length_le (by have := unhide HNP; omega), List.drop_of_length_le (by have := unhide HNQ; omega)]; exact rfl, by simp [go_sem], by simp [go_sem], ((Below.refl _ _).alloc (Nat.le_refl _) _).alloc (by simp) _⟩
    case round =>
      obtain ⟨j, hj, rfl, HD, hb1, hb2, hbl⟩ := hrel
      by_cases hj0 : j = 0
      · subst hj0
        have HF : Hid (Cub.cmpN (Cub.lval 1000000000 lp) (Cub.lval 1000000000 lq) = 0) := by
          have h := unhide HD
          rw [List.drop_zero, List.drop_zero] at h
          rw [h, Cub.cmpN_eq]; exact rfl
        go_wp2
        go_ret
        exact ⟨by rw [unhide HF]; rfl, hbl⟩
      · obtain ⟨i, rfl⟩ : ∃ i, j = i + 1 := ⟨j - 1, by omega⟩
        have hip : i < lp.length := by have := unhide HNP; omega
        have hiq : i < lq.length := by have := unhide HNQ; omega
        obtain ⟨b1, o1, rfl, hc1⟩ := (unhide HP).2 wr hbl i hip
        obtain ⟨b2, o2, rfl, hc2⟩ := (unhide HQ).2 wr hbl i hiq
        obtain ⟨xv, hxv⟩ : ∃ xv, xv = lp[i] := ⟨_, rfl⟩
        obtain ⟨yv, hyv⟩ : ∃ yv, yv = lq[i] := ⟨_, rfl⟩
        rw [← hxv] at hc1
        rw [← hyv] at hc2
        obtain ⟨c, hc⟩ : ∃ c, c = Cub.cmpN xv yv := ⟨_, rfl⟩
        have C79 : Hid (∀ W, Calls Tryz.prog 60 #[.int .u64 (xv : Int), .int .u64 (yv : Int)] W fun e w' => e = .returned (.int .i64 c) ∧ w' = W) := fun W => by have h := cmp64_any xv yv W; rw [← hc] at h; exact h
        have hin' : (i : Int) < (np : Int) := by omega
        rw [show (((i + 1 : Nat) : Int) - 1) = (i : Int) from by omega]
        by_cases hxy : xv = yv
        · have hc0 : c = 0 := by rw [hc, hxy, Cub.cmpN_eq]
          subst hc0
          have HD' : Hid (lp.drop i = lq.drop i) := by
            rw [List.drop_eq_getElem_cons hip, List.drop_eq_getElem_cons hiq, unhide HD, ← hxv, ← hyv, hxy]; exact rfl
          clear hc hxy hxv hyv hj0
          go_wp2
          go_quiet ((go_at_call 60; exact Calls.quiet_of_same (unhide C79 _)))
          go_wp2
          go_roundw
          case rel => exact ⟨i, by omega, rfl, HD', hb1, hb2, below_drewN hbl _⟩
          case measure => simp [intOf]
        · have hcz : (c != 0) = true := by
            rw [hc, bne_iff_ne]
            rcases Nat.lt_or_ge xv yv with h | h
            · rw [Cub.cmpN_lt h]; omega
            · rw [Cub.cmpN_gt (show yv < xv by omega)]; omega
          have HF : Hid (Cub.cmpN (Cub.lval 1000000000 lp) (Cub.lval 1000000000 lq) = c) := by
            have hl : lp.length = lq.length := by rw [← unhide HNP, ← unhide HNQ]
            rw [hc]
            rcases Nat.lt_or_ge xv yv with h | h
            · rw [Cub.cmpN_lt h, Cub.cmpN_lt (Cub.cmp_at (unhide HP).1.1 hl i hip (unhide HD) (by rw [← hxv, ← hyv]; exact h))]; exact rfl
            · have h' : yv < xv := by omega
              rw [Cub.cmpN_gt h', Cub.cmpN_gt (Cub.cmp_at (unhide HQ).1.1 hl.symm i hiq (unhide HD).symm (by rw [← hxv, ← hyv]; exact h'))]; exact rfl
          clear hc hxy hxv hyv hj0
          go_wp2
          go_quiet ((go_at_call 60; exact Calls.quiet_of_same (unhide C79 _)))
          go_wp2
          go_ret
          exact ⟨by rw [unhide HF]; rfl, below_drewN hbl _⟩
  · obtain ⟨c, hc⟩ : ∃ c, c = Cub.cmpN np nq := ⟨_, rfl⟩
    have hfin : Cub.cmpN (Cub.lval 1000000000 lp) (Cub.lval 1000000000 lq) = c := by
      rw [hc]
      rcases Nat.lt_or_ge np nq with h | h
      · rw [Cub.cmpN_lt h, Cub.cmpN_lt (Cub.cmp_len (unhide HP).1.1 (unhide HQ).1 (by have := unhide HNP; have := unhide HNQ; omega))]
      · rw [Cub.cmpN_gt (show nq < np by omega), Cub.cmpN_gt (Cub.cmp_len (unhide HQ).1.1 (unhide HP).1 (by have := unhide HNP; have := unhide HNQ; omega))]
    have hc0 : (c != 0) = true := by
      rw [hc, bne_iff_ne]
      rcases Nat.lt_or_ge np nq with h | h
      · rw [Cub.cmpN_lt h]; omega
      · rw [Cub.cmpN_gt (show nq < np by omega)]; omega
    have C78 : Hid (∀ W, Calls Tryz.prog 172 #[.int .i64 (np : Int), .int .i64 (nq : Int)] W fun e w' => e = .returned (.int .i64 c) ∧ w' = W) := fun W => by have h := cmpi_any np nq W; rw [← hc] at h; exact h
    rw [hfin]
    clear hfin hc
    go_enter Tryz.func124, Tryz.ntmps124
    go_wp2_with (go_at_call 172; refine (unhide C78 _).mono ?_; rintro e w' ⟨rfl, rfl⟩)
    go_ret
    exact ⟨rfl, ((Below.refl _ _).alloc (Nat.le_refl _) _).alloc (by simp) _⟩
end Go.Proofs.YtijifpbpjinmhaaGreatDoor
namespace Cub
/-- After an even number of steps: x, y are what the steps make of x0, y0; the signs alternate; both ends stay at 0 or above. (After an odd number: the same with the columns exchanged.) -/
structure Ev (x0 y0 x y A B C D : Int) : Prop where
  ex : x = A * x0 + B * y0
  ey : y = C * x0 + D * y0
  sA : 0 ≤ A
  sB : B ≤ 0
  sC : C ≤ 0
  sD : 0 ≤ D
  det : A * D - B * C = 1
  p1 : 0 ≤ x + A
  p2 : 0 ≤ x + B
  r1 : 0 ≤ y + C
  r2 : 0 ≤ y + D
  bA : A ≤ 1000000000
  bB : -1000000000 ≤ B
  bC : -1000000000 ≤ C
  bD : D ≤ 1000000000
theorem Ev.start (x0 y0 : Int) (hx : 0 ≤ x0) (hy : 0 ≤ y0) : Ev x0 y0 x0 y0 1 0 0 1 := by
  constructor <;> omega
theorem sq_bound {C y : Int} (h0 : 0 ≤ C) (h1 : C ≤ y) (h2 : C * y < 1000000000000000000) : C ≤ 1000000000 := by
  apply Decidable.byContradiction
  intro hc
  have h3 : 1000000000 ≤ y := by omega
  have h4 : 1000000000 * 1000000000 ≤ C * y := Int.mul_le_mul (by omega) h3 (by omega) (by omega)
  omega
theorem Ev.step {x0 y0 x y A B C D q : Int} (h : Ev x0 y0 x y A B C D) (hq : 0 ≤ q) (a1 : q * (y + C) ≤ x + A) (a2 : x + A < q * (y + C) + (y + C)) (b1 : q * (y + D) ≤ x + B)
    (hx : x0 < 1000000000000000000) (hy : y0 < 1000000000000000000) : Ev y0 x0 y (x - q * y) D C (B - q * D) (A - q * C) := by
  have qD : 0 ≤ q * D := Int.mul_nonneg hq h.sD
  have qC : q * C ≤ 0 := Int.mul_nonpos_of_nonneg_of_nonpos hq h.sC
  have e1 : q * (y + C) = q * y + q * C := Int.mul_add ..
  have e2 : q * (y + D) = q * y + q * D := Int.mul_add ..
  have sA := h.sA; have sB := h.sB; have sC := h.sC; have sD := h.sD
  have ex := h.ex; have ey := h.ey; have det := h.det
  have r1 := h.r1; have r2 := h.r2
  have hy1 : 0 ≤ x - q * y := by omega
  have k1 : (A - q * C) * y - C * (x - q * y) = y0 := by
    have : (A - q * C) * y - C * (x - q * y) = A * y - C * x := by grind
    rw [this, ex, ey]
    have : A * (C * x0 + D * y0) - C * (A * x0 + B * y0) = (A * D - B * C) * y0 := by grind
    rw [this, det, Int.one_mul]
  have k2 : (q * D - B) * y + D * (x - q * y) = x0 := by
    have : (q * D - B) * y + D * (x - q * y) = D * x - B * y := by grind
    rw [this, ex, ey]
    have : D * (A * x0 + B * y0) - B * (C * x0 + D * y0) = (A * D - B * C) * x0 := by grind
    rw [this, det, Int.one_mul]
  have m1 : 0 ≤ -(C * (x - q * y)) := by
    have := Int.mul_nonpos_of_nonpos_of_nonneg sC hy1
    omega
  have m2 : 0 ≤ D * (x - q * y) := Int.mul_nonneg sD hy1
  have c1 : A - q * C ≤ 1000000000 := sq_bound (y := y) (by omega) (by omega) (by omega)
  have c2 : q * D - B ≤ 1000000000 := sq_bound (y := y) (by omega) (by omega) (by omega)
  refine ⟨?_, ?_, sD, sC, by omega, by omega, ?_, r2, r1, by omega, by omega, h.bD, h.bC, by omega, c1⟩
  · rw [ey]; omega
  · rw [ex, ey]; grind
  · have : D * (A - q * C) - C * (B - q * D) = A * D - B * C := by grind
    rw [this, det]
/-- The numbers themselves: what is left is not below 0, and below what divides. -/
theorem Ev.rest {x0 y0 x y A B C D q b c U P u v : Int} (h : Ev x0 y0 x y A B C D) (hq : 0 ≤ q) (a2 : x + A < q * (y + C) + (y + C)) (b1 : q * (y + D) ≤ x + B)
    (hb : b * U = x0 * P + u) (hc : c * U = y0 * P + v) (hu : 0 ≤ u) (hu2 : u ≤ P) (hv : 0 ≤ v) (hv2 : v ≤ P) (hP : 0 < P) (hU : 0 < U) :
    0 ≤ (A * b + B * c) - q * (C * b + D * c) ∧ (A * b + B * c) - q * (C * b + D * c) < C * b + D * c := by
  have qD : 0 ≤ q * D := Int.mul_nonneg hq h.sD
  have qC : q * C ≤ 0 := Int.mul_nonpos_of_nonneg_of_nonpos hq h.sC
  have sA := h.sA; have sB := h.sB; have sC := h.sC; have sD := h.sD
  have ex := h.ex; have ey := h.ey
  have e1 : U * ((A * b + B * c) - q * (C * b + D * c)) = (x - q * y) * P + (A - q * C) * u + (B - q * D) * v := by
    have : U * ((A * b + B * c) - q * (C * b + D * c)) = A * (b * U) + B * (c * U) - q * (C * (b * U) + D * (c * U)) := by grind
    rw [this, hb, hc, ex, ey]; grind
  have e2 : U * (C * b + D * c) = y * P + C * u + D * v := by
    have : U * (C * b + D * c) = C * (b * U) + D * (c * U) := by grind
    rw [this, hb, hc, ey]; grind
  have m1 : 0 ≤ (A - q * C) * u := Int.mul_nonneg (by omega) hu
  have m2 : (B - q * D) * P ≤ (B - q * D) * v := Int.mul_le_mul_of_nonpos_left (by omega) hv2
  have m3 : 0 ≤ ((x + B) - q * (y + D)) * P := Int.mul_nonneg (by omega) (by omega)
  have m4 : (x - q * y) * P + (B - q * D) * P = ((x + B) - q * (y + D)) * P := by grind
  have n1 : (A - q * C - C) * u ≤ (A - q * C - C) * P := Int.mul_le_mul_of_nonneg_left hu2 (by omega)
  have n2 : (B - q * D - D) * v ≤ 0 := Int.mul_nonpos_of_nonpos_of_nonneg (by omega) hv
  have n3 : ((x + A) - q * (y + C) - (y + C)) * P < 0 := Int.mul_neg_of_neg_of_pos (by omega) hP
  have n4 : (x - q * y) * P - y * P + (A - q * C - C) * P = ((x + A) - q * (y + C) - (y + C)) * P := by grind
  have n5 : (A - q * C - C) * u = (A - q * C) * u - C * u := by grind
  have n6 : (B - q * D - D) * v = (B - q * D) * v - D * v := by grind
  refine ⟨?_, ?_⟩
  · apply Decidable.byContradiction
    intro hn
    have : U * ((A * b + B * c) - q * (C * b + D * c)) < 0 := Int.mul_neg_of_pos_of_neg hU (by omega)
    omega
  · apply Decidable.byContradiction
    intro hn
    have h1 : U * (C * b + D * c) ≤ U * ((A * b + B * c) - q * (C * b + D * c)) := Int.mul_le_mul_of_nonneg_left (by omega) (by omega)
    omega
/-- A step of Euclid's keeps the greatest common divisor. -/
theorem gcd_step (b c q : Int) : Int.gcd c (b - q * c) = Int.gcd b c := by
  rw [Int.gcd_comm, Int.sub_eq_add_neg, ← Int.neg_mul, Int.gcd_add_mul_right_left]
/-- Steps of Euclid's on b0 and c0, told by what they make of the first digits x0 and y0. -/
structure LS (b0 c0 x0 y0 x y A B C D : Int) : Prop where
  ev : Ev x0 y0 x y A B C D ∨ Ev y0 x0 x y B A D C
  gcd : Int.gcd (A * b0 + B * c0) (C * b0 + D * c0) = Int.gcd b0 c0
  lo : 0 ≤ C * b0 + D * c0
  le : C * b0 + D * c0 ≤ A * b0 + B * c0
  now : (A = 1 ∧ B = 0 ∧ C = 0 ∧ D = 1) ∨ (A * b0 + B * c0 ≤ c0 ∧ C * b0 + D * c0 < c0)
  hx : x ≤ 1000000000000000000
  hy : y ≤ 1000000000000000000
theorem LS.start {b0 c0 x0 y0 : Int} (h1 : 0 ≤ c0) (h2 : c0 ≤ b0) (hx : 0 ≤ x0) (hy : 0 ≤ y0) (hx2 : x0 < 1000000000000000000) (hy2 : y0 < 1000000000000000000) : LS b0 c0 x0 y0 x0 y0 1 0 0 1 := by
  refine ⟨.inl (Ev.start x0 y0 hx hy), ?_, by omega, by omega, .inl ⟨rfl, rfl, rfl, rfl⟩, by omega, by omega⟩
  simp
theorem LS.bounds {b0 c0 x0 y0 x y A B C D : Int} (h : LS b0 c0 x0 y0 x y A B C D) :
    0 ≤ x + A ∧ 0 ≤ x + B ∧ 0 ≤ y + C ∧ 0 ≤ y + D ∧ (-1000000000 ≤ A ∧ A ≤ 1000000000) ∧ (-1000000000 ≤ B ∧ B ≤ 1000000000) ∧ (-1000000000 ≤ C ∧ C ≤ 1000000000) ∧ (-1000000000 ≤ D ∧ D ≤ 1000000000) ∧ 0 ≤ x ∧ 0 ≤ y ∧ ((0 ≤ A ∧ B ≤ 0) ∨ (A ≤ 0 ∧ 0 ≤ B)) ∧ ((0 ≤ C ∧ D ≤ 0) ∨ (C ≤ 0 ∧ 0 ≤ D)) := by
  rcases h.ev with h | h
  all_goals (
    have p1 := h.p1; have p2 := h.p2; have r1 := h.r1; have r2 := h.r2; have sA := h.sA; have sB := h.sB; have sC := h.sC; have sD := h.sD
    have bA := h.bA; have bB := h.bB; have bC := h.bC; have bD := h.bD
    omega)
theorem quo_facts {a b q : Int} (ha : 0 ≤ a) (hb : 0 ≤ b) (h0 : b ≠ 0) (hq : q = a / b) : 0 ≤ q ∧ q * b ≤ a ∧ a < q * b + b := by
  subst hq
  have h1 : 0 < b := by omega
  refine ⟨Int.ediv_nonneg ha hb, Int.ediv_mul_le a h0, ?_⟩
  have := Int.lt_ediv_add_one_mul_self a h1
  rw [Int.add_mul, Int.one_mul] at this
  exact this
theorem LS.step {b0 c0 x0 y0 x y A B C D q U P u v : Int} (h : LS b0 c0 x0 y0 x y A B C D) (e1 : y + C ≠ 0) (e2 : y + D ≠ 0) (hq1 : q = (x + A) / (y + C)) (hq2 : q = (x + B) / (y + D))
    (hx0 : x0 < 1000000000000000000) (hy0 : y0 < 1000000000000000000)
    (hb : b0 * U = x0 * P + u) (hc : c0 * U = y0 * P + v) (hu : 0 ≤ u) (hu2 : u ≤ P) (hv : 0 ≤ v) (hv2 : v ≤ P) (hP : 0 < P) (hU : 0 < U) :
    LS b0 c0 x0 y0 y (x - q * y) C D (A - q * C) (B - q * D) ∧ x - q * y < y ∧ 0 ≤ q := by
  obtain ⟨k1, k2, k3, k4, -, -, -, -, k5, k6, -, -⟩ := h.bounds
  obtain ⟨q0, f1, f2⟩ := quo_facts k1 k3 e1 hq1
  obtain ⟨-, g1, g2⟩ := quo_facts k2 k4 e2 hq2
  clear hq1 hq2
  have hN : (A - q * C) * b0 + (B - q * D) * c0 = (A * b0 + B * c0) - q * (C * b0 + D * c0) := by grind
  have E1 : q * (y + C) = q * y + q * C := Int.mul_add ..
  have E2 : q * (y + D) = q * y + q * D := Int.mul_add ..
  have hmain : (Ev x0 y0 y (x - q * y) C D (A - q * C) (B - q * D) ∨ Ev y0 x0 y (x - q * y) D C (B - q * D) (A - q * C)) ∧ (0 ≤ (A * b0 + B * c0) - q * (C * b0 + D * c0) ∧ (A * b0 + B * c0) - q * (C * b0 + D * c0) < C * b0 + D * c0) ∧ x - q * y < y := by
    rcases h.ev with h | h
    · refine ⟨.inr (h.step q0 f1 f2 g1 hx0 hy0), h.rest q0 f2 g1 hb hc hu hu2 hv hv2 hP hU, ?_⟩
      have sA := h.sA; have sC := h.sC
      have := Int.mul_nonpos_of_nonneg_of_nonpos q0 sC
      omega
    · refine ⟨.inl (h.step q0 g1 g2 f1 hy0 hx0), ?_, ?_⟩
      · have := h.rest q0 g2 f1 hc hb hv hv2 hu hu2 hP hU
        rw [Int.add_comm (B * c0), Int.add_comm (D * c0)] at this
        exact this
      · have sB := h.sA; have sD := h.sC
        have := Int.mul_nonpos_of_nonneg_of_nonpos q0 sD
        omega
  obtain ⟨m1, ⟨m2, m3⟩, m4⟩ := hmain
  refine ⟨⟨m1, ?_, by omega, by omega, .inr ?_, h.hy, by have := h.hy; omega⟩, m4, q0⟩
  · rw [hN, gcd_step]; exact h.gcd
  · rw [hN]
    rcases h.now with ⟨rfl, rfl, rfl, rfl⟩ | ⟨n1, n2⟩
    · omega
    · omega
/-- What stands behind the steps: sizes, and products that the machine works out. -/
theorem LS.products {b0 c0 x0 y0 x y A B C D q : Int} (h : LS b0 c0 x0 y0 x y A B C D) (h' : LS b0 c0 x0 y0 y (x - q * y) C D (A - q * C) (B - q * D)) (q0 : 0 ≤ q) :
    (-2000000000 ≤ q * C ∧ q * C ≤ 2000000000) ∧ (-2000000000 ≤ q * D ∧ q * D ≤ 2000000000) ∧ 0 ≤ q * y ∧ q * y ≤ 1000000000000000000 := by
  obtain ⟨-, -, -, -, a1, a2, a3, a4, k5, k6, -, -⟩ := h.bounds
  obtain ⟨-, -, -, -, b1, b2, b3, b4, l5, l6, -, -⟩ := h'.bounds
  have := Int.mul_nonneg q0 k6
  have := h.hx
  omega
/-- One row out of two: times one number and more times another. -/
structure TG (lb lc S : List Nat) (t m k : Int) (i : Nat) : Prop where
  len : S.length = lb.length
  limbs : limbs 1000000000 S
  eq : (lval 1000000000 (S.take i) : Int) + k * (1000000000 ^ i : Nat) = t * (lval 1000000000 (lb.take i) : Nat) + m * (lval 1000000000 (lc.take i) : Nat)
  k1 : -1000000000 ≤ k
  k2 : k ≤ 999999999
theorem TG.start (lb lc : List Nat) (t m : Int) : TG lb lc (List.replicate lb.length 0) t m 0 0 := by
  refine ⟨by simp, ?_, by simp [lval], by omega, by omega⟩
  intro x hx
  have := List.eq_of_mem_replicate hx
  omega
theorem opp_bound {t m x z : Int} (ht : -1000000000 ≤ t ∧ t ≤ 1000000000) (hm : -1000000000 ≤ m ∧ m ≤ 1000000000) (hs : (0 ≤ t ∧ m ≤ 0) ∨ (t ≤ 0 ∧ 0 ≤ m)) (hx : 0 ≤ x ∧ x ≤ 999999999) (hz : 0 ≤ z ∧ z ≤ 999999999) :
    -999999999000000000 ≤ t * x + m * z ∧ t * x + m * z ≤ 999999999000000000 ∧ (-999999999000000000 ≤ t * x ∧ t * x ≤ 999999999000000000) ∧ (-999999999000000000 ≤ m * z ∧ m * z ≤ 999999999000000000) := by
  have pos : ∀ {a b : Int}, 0 ≤ a → a ≤ 1000000000 → 0 ≤ b → b ≤ 999999999 → 0 ≤ a * b ∧ a * b ≤ 999999999000000000 := by
    intro a b h1 h2 h3 h4
    have := Int.mul_le_mul h2 h4 h3 (by omega)
    exact ⟨Int.mul_nonneg h1 h3, by omega⟩
  rcases hs with ⟨s1, s2⟩ | ⟨s1, s2⟩
  · have p := pos s1 ht.2 hx.1 hx.2
    have n := pos (a := -m) (b := z) (by omega) (by omega) hz.1 hz.2
    rw [Int.neg_mul] at n
    omega
  · have p := pos s2 hm.2 hz.1 hz.2
    have n := pos (a := -t) (b := x) (by omega) (by omega) hx.1 hx.2
    rw [Int.neg_mul] at n
    omega
theorem take_getD (l : List Nat) (i : Nat) : lval 1000000000 (l.take (i + 1)) = lval 1000000000 (l.take i) + 1000000000 ^ i * l.getD i 0 := by
  by_cases h : i < l.length
  · rw [take_val l i h]; simp [List.getD, h]
  · rw [take_val' l i (by omega)]; simp [List.getD, List.getElem?_eq_none (Nat.le_of_not_lt h)]
theorem TG.step {lb lc S : List Nat} {t m k s : Int} {i : Nat} (h : TG lb lc S t m k i) (hi : i < lb.length) (hs : s = k + 1000000000000000000 + t * (lb.getD i 0 : Nat) + m * (lc.getD i 0 : Nat))
    (s0 : 0 ≤ s) (s1 : s ≤ 1999999999999999999) : TG lb lc (S.set i (s % 1000000000).toNat) t m (s / 1000000000 - 1000000000) (i + 1) := by
  have hlen := h.len
  have hm0 : 0 ≤ s % 1000000000 := Int.emod_nonneg _ (by decide)
  have hm1 : s % 1000000000 < 1000000000 := Int.emod_lt_of_pos _ (by decide)
  refine ⟨by rw [List.length_set]; exact h.len, limbs_set h.limbs _ _ (by omega), ?_, by omega, by omega⟩
  have e1 : lval 1000000000 ((S.set i (s % 1000000000).toNat).take (i + 1)) = lval 1000000000 (S.take i) + 1000000000 ^ i * (s % 1000000000).toNat := by
    rw [take_val _ i (by rw [List.length_set]; omega)]
    rw [List.getElem_set_self, List.take_set_of_le (Nat.le_refl _)]
  rw [e1, take_getD lb i, take_getD lc i]
  have e := h.eq
  have ed : s = 1000000000 * (s / 1000000000) + s % 1000000000 := (Int.mul_ediv_add_emod s 1000000000).symm
  have e2 : (((s % 1000000000).toNat : Nat) : Int) = s % 1000000000 := Int.toNat_of_nonneg hm0
  generalize lb.getD i 0 = xb at *
  generalize lc.getD i 0 = xc at *
  generalize lval 1000000000 (S.take i) = vs at *
  generalize lval 1000000000 (lb.take i) = vb at *
  generalize lval 1000000000 (lc.take i) = vc at *
  rw [Nat.pow_succ]
  generalize (1000000000 : Nat) ^ i = p at *
  simp only [Int.natCast_add, Int.natCast_mul, e2, show ((1000000000 : Nat) : Int) = 1000000000 from rfl]
  generalize s / 1000000000 = d at *
  generalize s % 1000000000 = r at *
  have : (vs : Int) + p * r + (d - 1000000000) * (p * 1000000000) = (vs + k * p) + p * ((1000000000 * d + r) - k - 1000000000000000000) := by grind
  rw [this, ← ed, e, hs]
  grind
theorem TG.done {lb lc S : List Nat} {t m k : Int} {i : Nat} (h : TG lb lc S t m k i) (hi : i = lb.length) (hl : lc.length ≤ lb.length) (N : Nat)
    (hN : (N : Int) = t * (lval 1000000000 lb : Nat) + m * (lval 1000000000 lc : Nat)) (hle : N < 1000000000 ^ lb.length) : lval 1000000000 S = N := by
  subst hi
  have e := h.eq
  rw [List.take_of_length_le (by rw [h.len]; exact Nat.le_refl _), List.take_of_length_le (Nat.le_refl _), List.take_of_length_le hl, ← hN] at e
  have hS := lval_lt h.limbs
  rw [h.len] at hS
  generalize lval 1000000000 S = vs at *
  generalize (1000000000 : Nat) ^ lb.length = p at *
  have k0 : k = 0 := by
    rcases Int.lt_trichotomy k 0 with hk | hk | hk
    · have : k * (p : Int) ≤ -1 * (p : Int) := Int.mul_le_mul_of_nonneg_right (by omega) (by omega)
      omega
    · exact hk
    · have : 1 * (p : Int) ≤ k * (p : Int) := Int.mul_le_mul_of_nonneg_right (by omega) (by omega)
      omega
  rw [k0, Int.zero_mul] at e
  omega
/-- The first digits of a row of three limbs or more, the row moved up. -/
theorem first_digits (low : List Nat) (p q r up e : Nat) (hl : limbs 1000000000 low) (hue : up * e = 1000000000) :
    ∃ u, lval 1000000000 (low ++ [p, q, r]) * up = ((r * 1000000000 + q) * up + p / e) * 1000000000 ^ (low.length + 1) + u ∧ u < 1000000000 ^ (low.length + 1) := by
  have hv := lval_lt hl
  have he : 0 < e := by rcases Nat.eq_zero_or_pos e with h | h; · rw [h] at hue; omega
                        · exact h
  have hu : 0 < up := by rcases Nat.eq_zero_or_pos up with h | h; · rw [h] at hue; omega
                         · exact h
  refine ⟨up * (lval 1000000000 low + 1000000000 ^ low.length * (p % e)), ?_, ?_⟩
  · rw [lval_append]
    have e3 : lval 1000000000 [p, q, r] = p + 1000000000 * (q + 1000000000 * r) := by simp [lval]
    rw [e3, Nat.pow_succ]
    generalize lval 1000000000 low = v at *
    generalize (1000000000 : Nat) ^ low.length = b at *
    have hp := Nat.div_add_mod p e
    generalize p / e = d at *
    generalize p % e = m at *
    rw [← hp]
    have : (v + b * (e * d + m + 1000000000 * (q + 1000000000 * r))) * up = (r * 1000000000 + q) * up * (b * 1000000000) + (up * e) * (b * d) + up * (v + b * m) := by grind
    rw [this, hue]
    grind
  · have hm : p % e < e := Nat.mod_lt _ he
    rw [Nat.pow_succ]
    generalize lval 1000000000 low = v at *
    generalize (1000000000 : Nat) ^ low.length = b at *
    generalize p % e = m at *
    have h1 : v + b * m < b * e := by
      have : b * m + b ≤ b * e := by rw [← Nat.mul_succ]; exact Nat.mul_le_mul_left _ hm
      omega
    have h2 : up * (v + b * m) < up * (b * e) := Nat.mul_lt_mul_of_pos_left h1 hu
    have h3 : up * (b * e) = b * (up * e) := by grind
    rw [hue] at h3
    omega
end Cub
namespace Go.Proofs.YtijifpbpjinmhaaGreatDoor
open Go.RowKit
/-- The worlds that come behind one. -/
structure Later (w : World) where
  world : World
  below : Below w.heap.size w world
instance (w : World) : Nonempty (Later w) := ⟨⟨w, Below.refl _ _⟩⟩
/-- A region that draws its order, whose callees make new memory alone: one walk. -/
theorem quiet_later {P : Program} {id : Nat} {Q : Exit → Act → World → Prop} {a : Act} {w : World} {l : List Oper} (hm : P.follows .mixedOrders = true) (hB : Region.lexB .any l.toArray = true)
    (h : wpQuiet P l.toArray (fun w' => ∃ x : Later w, w' = x.world) (fun a' => ∀ w', (∃ x : Later w, w' = x.world) → Q .normal a' w') l a) : (Code.region id l.toArray true).wp P Q a w :=
  wp_region_quiet (C := fun w' => ∃ x : Later w, w' = x.world) hm hB ⟨⟨_, (Below.refl w.heap.size w).drew⟩, rfl⟩ (by simpa using h)
theorem gcdSmall_any (a b : Nat) (w : World) (ha : a < 18446744073709551616) (hb : b < 18446744073709551616) :
    Calls Tryz.prog 169 #[.int .u64 (a : Int), .int .u64 (b : Int)] w fun e w' => e = .returned (.int .u64 ((Nat.gcd a b : Nat) : Int)) ∧ Below w.heap.size w w' := by
  go_enter Tryz.func169, Tryz.ntmps169
  go_wp2
  go_loopw [0, 1] (fun u v wr => ∃ x y : Nat, u = .int .u64 (x : Int) ∧ v = .int .u64 (y : Int) ∧ x < 18446744073709551616 ∧ y < 18446744073709551616 ∧ Hid (Nat.gcd x y = Nat.gcd a b) ∧ Hid (Below w.heap.size w wr)) (fun _ v _ => (intOf v).toNat)
  case atStart => exact ⟨a, b, rfl, rfl, ha, hb, rfl, Below.refl _ _⟩
  case round =>
    obtain ⟨x, y, rfl, rfl, hx, hy, HG, HB⟩ := hrel
    by_cases h0 : 0 < y
    · have hy0 : ¬ y = 0 := by omega
      have h0' : (0 : Int) < (y : Int) := by omega
      have hlt : x % y < y := Nat.mod_lt _ h0
      have HG' : Hid (Nat.gcd y (x % y) = Nat.gcd a b) := by
        show _ = _
        rw [← unhide HG, Nat.gcd_comm x y, Nat.gcd_rec y x, Nat.gcd_comm (x % y) y]
      go_upto_region 2 with fail
      go_quiet (fail)
      go_wp2
      go_roundw
      case rel => exact ⟨y, x % y, rfl, by go_num, hy, by omega, HG', below_drewN (unhide HB) _⟩
      case measure => simp [intOf]; omega
    · have hy0 : y = 0 := by omega
      subst hy0
      have HV : Hid (x = Nat.gcd a b) := by show _ = _; rw [← unhide HG, Nat.gcd_zero_right]
      clear HG
      go_wp2
      go_ret
      exact ⟨by rw [← unhide HV]; rfl, unhide HB⟩
theorem bigSmall_any (x : Value) (m : Nat) (w : World) (hx : IsBig w x m) (hm : m < 1000000000000000000) :
    Calls Tryz.prog 170 #[x] w fun e w' => e = .returned (.int .u64 (m : Int)) ∧ Below w.heap.size w w' := by
  obtain ⟨ap, lp, cp, rfl, hlp, hrp, hnp, hv⟩ := hx.form
  have h2 : lp.length ≤ 2 := Cub.len_le hnp (by rw [hv]; omega)
  have HP : Hid (Cells w ap lp) := hrp.cells.2.2.2
  have hcs : lp = [] ∨ (∃ a, lp = [a]) ∨ ∃ a b, lp = [a, b] := by
    match lp, h2 with
    | [], _ => exact .inl rfl
    | [a], _ => exact .inr (.inl ⟨a, rfl⟩)
    | [a, b], _ => exact .inr (.inr ⟨a, b, rfl⟩)
  rcases hcs with rfl | ⟨a, rfl⟩ | ⟨a, b, rfl⟩
  · have HV : Hid (m = 0) := hv.symm
    clear hv hx hrp hnp HP hm
    simp only [List.length_nil]
    go_enter Tryz.func170, Tryz.ntmps170
    go_wp2
    refine wp_loop_rounds 1 ?_
    rw [rounds_succ]
    go_wp2
    go_ret
    exact ⟨by rw [unhide HV]; rfl, (Below.refl _ _).alloc (Nat.le_refl _) _⟩
  · have HV : Hid (m = a) := by show _ = _; rw [← hv]; simp [Cub.lval]
    have ha : a < 1000000000 := hnp.1 a (by simp)
    obtain ⟨b0, o0, rfl, hc0⟩ := unhide HP (w.alloc (.cells #[.slice ap 1 cp] 51)) ((Below.refl _ _).alloc (Nat.le_refl _) _) 0 (by simp)
    simp only [List.length_singleton, List.getElem_cons_zero, Nat.add_zero] at hc0 ⊢
    clear hv hx hrp hnp HP hm
    go_enter Tryz.func170, Tryz.ntmps170
    go_wp2
    refine wp_loop_rounds 2 ?_
    rw [rounds_succ]
    go_wp2
    rw [rounds_succ]
    go_wp2
    go_ret
    exact ⟨by rw [unhide HV]; first | rfl | (simp; done) | go_num, (Below.refl _ _).alloc (Nat.le_refl _) _⟩
  · have HV : Hid (m = b * 1000000000 + a) := by show _ = _; rw [← hv]; simp [Cub.lval]; omega
    have ha : a < 1000000000 := hnp.1 a (by simp)
    have hb : b < 1000000000 := hnp.1 b (by simp)
    have hW : Below w.heap.size w (w.alloc (.cells #[.slice ap 2 cp] 51)) := (Below.refl _ _).alloc (Nat.le_refl _) _
    obtain ⟨b0, o0, rfl, hc0⟩ := unhide HP _ hW 0 (by simp)
    obtain ⟨b1, o1, e1, hc1⟩ := unhide HP _ hW 1 (by simp)
    simp only [Option.some.injEq, Addr.mk.injEq] at e1
    obtain ⟨rfl, rfl, _⟩ := e1
    simp only [List.length_cons, List.length_nil, List.getElem_cons_zero, List.getElem_cons_succ, Nat.add_zero, Nat.zero_add, Nat.reduceAdd] at hc0 hc1 ⊢
    clear hv hx hrp hnp HP hm hW
    go_enter Tryz.func170, Tryz.ntmps170
    go_wp2
    refine wp_loop_rounds 3 ?_
    rw [rounds_succ]
    go_wp2
    rw [rounds_succ]
    go_wp2
    rw [rounds_succ]
    go_wp2
    go_ret
    exact ⟨by rw [unhide HV]; first | rfl | (simp; done) | go_num, (Below.refl _ _).alloc (Nat.le_refl _) _⟩
theorem limb_any (ap : Option Addr) (l : List Nat) (cap i : Nat) (w : World) (hr : Row w (.slice ap l.length cap) l) :
    Calls Tryz.prog 224 #[.agg #[.slice ap l.length cap], .int .i64 (i : Int)] w fun e w' => e = .returned (.int .u64 ((l.getD i 0 : Nat) : Int)) ∧ Below w.heap.size w w' := by
  have HP : Hid (Cells w ap l) := hr.cells.2.2.2
  have hl : l.length ≤ 9223372036854775807 := by have := hr.cells.2; omega
  have hW : Below w.heap.size w (w.alloc (.cells #[.slice ap l.length cap] 51)) := (Below.refl _ _).alloc (Nat.le_refl _) _
  by_cases h : i < l.length
  · obtain ⟨b, o, rfl, hc⟩ := unhide HP _ hW i h
    have HV : Hid (l.getD i 0 = l[i]) := by show _ = _; simp [List.getD, h]
    generalize l[i] = x at *
    generalize l.getD i 0 = y at *
    generalize l.length = n at *
    clear HP hr hW
    go_enter Tryz.func224, Tryz.ntmps224
    go_wp2
    go_ret
    exact ⟨by rw [unhide HV]; rfl, (Below.refl _ _).alloc (Nat.le_refl _) _⟩
  · have HV : Hid (l.getD i 0 = 0) := by show _ = _; simp [List.getD, List.getElem?_eq_none (Nat.le_of_not_lt h)]
    generalize l.getD i 0 = y at *
    generalize l.length = n at *
    clear HP hr hW
    go_enter Tryz.func224, Tryz.ntmps224
    go_wp2
    go_ret
    exact ⟨by rw [unhide HV]; rfl, (Below.refl _ _).alloc (Nat.le_refl _) _⟩
end Go.Proofs.YtijifpbpjinmhaaGreatDoor
