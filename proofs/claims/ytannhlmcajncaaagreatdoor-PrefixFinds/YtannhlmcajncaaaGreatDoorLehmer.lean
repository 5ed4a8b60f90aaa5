/- Lehmer's steps: quotients of Euclid's found from the first digits alone. No program is named here. -/
import Derived.Test.YtannhlmcajncaaaGreatDoorCmpMath
import Derived.Deep.QuietTactic
import Derived.BigQuiet
import Derived.Test.YtannhlmcajncaaaGreatDoorMulMath
import Derived.Deep.RegionHeld3
import Derived.Test.YtannhlmcajncaaaGreatDoorNTell
import Derived.Test.YtannhlmcajncaaaGreatDoorLimb2
namespace Cub
theorem lval_split (B : Nat) (a : List Nat) (j : Nat) (h : j < a.length) : lval B a = lval B (a.take j) + B ^ j * (a[j] + B * lval B (a.drop (j + 1))) := by
  have e := lval_append B (a.take j) (a.drop j)
  rw [List.take_append_drop, List.length_take, Nat.min_eq_left (by omega), List.drop_eq_getElem_cons h] at e
  exact e
theorem cmp_at {B : Nat} {a b : List Nat} (ha : limbs B a) (hl : a.length = b.length) (j : Nat) (h : j < a.length) (hd : a.drop (j + 1) = b.drop (j + 1)) (hlt : a[j] < b[j]) : lval B a < lval B b := by
  rw [lval_split B a j h, lval_split B b j (by omega), hd]
  have h1 : lval B (a.take j) < B ^ j := by
    have := lval_lt (B := B) (l := a.take j) (fun z hz => ha z (List.mem_of_mem_take hz))
    rwa [List.length_take, Nat.min_eq_left (by omega)] at this
  have h2 : B ^ j * (a[j] + B * lval B (b.drop (j + 1)) + 1) ≤ B ^ j * (b[j] + B * lval B (b.drop (j + 1))) := Nat.mul_le_mul_left _ (by omega)
  rw [Nat.mul_add (B ^ j) (a[j] + B * lval B (b.drop (j + 1))) 1] at h2
  omega
theorem cmp_len {a b : List Nat} (ha : limbs 1000000000 a) (hb : normal 1000000000 b) (h : a.length < b.length) : lval 1000000000 a < lval 1000000000 b := by
  have h1 := lval_lt ha
  have hne : b ≠ [] := by intro e; rw [e] at h; simp at h
  have h2 := normal_ge hb hne
  have h3 : 1000000000 ^ a.length ≤ 1000000000 ^ (b.length - 1) := Nat.pow_le_pow_right (by decide) (by omega)
  omega
theorem cmpN_lt {m n : Nat} (h : m < n) : cmpN m n = -1 := if_pos h
theorem cmpN_gt {m n : Nat} (h : n < m) : cmpN m n = 1 := by unfold cmpN; rw [if_neg (by omega), if_pos h]
theorem cmpN_eq (m : Nat) : cmpN m m = 0 := by unfold cmpN; rw [if_neg (by omega), if_neg (by omega)]
end Cub
namespace Go.Proofs.YtannhlmcajncaaaGreatDoor
open Go.RowKit

theorem isNaN64_any (a : Int) (w : World) : Calls Tryz.prog 117 #[.int .u64 a] w fun e w' => e = .returned (.bool false) ∧ w' = w := by
  go_enter Tryz.func117, Tryz.ntmps117
  go_wp2
  go_ret
  exact ⟨rfl, rfl⟩

theorem cmp64_any (a b : Nat) (w : World) :
    Calls Tryz.prog 102 #[.int .u64 (a : Int), .int .u64 (b : Int)] w fun e w' => e = .returned (.int .i64 (Cub.cmpN a b)) ∧ w' = w := by
  rcases Nat.lt_trichotomy a b with h | h | h
  · rw [Cub.cmpN_lt h]
    have h1 : (a : Int) < (b : Int) := by omega
    go_enter Tryz.func102, Tryz.ntmps102
    go_wp2_with (go_at_call 117; refine (isNaN64_any _ _).mono ?_; rintro e w' ⟨rfl, rfl⟩)
    go_ret
    exact ⟨rfl, rfl⟩
  · subst h
    rw [Cub.cmpN_eq]
    go_enter Tryz.func102, Tryz.ntmps102
    go_wp2_with (go_at_call 117; refine (isNaN64_any _ _).mono ?_; rintro e w' ⟨rfl, rfl⟩)
    go_ret
    exact ⟨rfl, rfl⟩
  · rw [Cub.cmpN_gt h]
    have h1 : (b : Int) < (a : Int) := by omega
    go_enter Tryz.func102, Tryz.ntmps102
    go_wp2_with (go_at_call 117; refine (isNaN64_any _ _).mono ?_; rintro e w' ⟨rfl, rfl⟩)
    go_ret
    exact ⟨rfl, rfl⟩

theorem isNaNi_any (a : Int) (w : World) : Calls Tryz.prog 116 #[.int .i64 a] w fun e w' => e = .returned (.bool false) ∧ w' = w := by
  go_enter Tryz.func116, Tryz.ntmps116
  go_wp2
  go_ret
  exact ⟨rfl, rfl⟩
theorem cmpi_any (a b : Nat) (w : World) :
    Calls Tryz.prog 101 #[.int .i64 (a : Int), .int .i64 (b : Int)] w fun e w' => e = .returned (.int .i64 (Cub.cmpN a b)) ∧ w' = w := by
  rcases Nat.lt_trichotomy a b with h | h | h
  · rw [Cub.cmpN_lt h]
    have h1 : (a : Int) < (b : Int) := by omega
    go_enter Tryz.func101, Tryz.ntmps101
    go_wp2_with (go_at_call 116; refine (isNaNi_any _ _).mono ?_; rintro e w' ⟨rfl, rfl⟩)
    go_ret
    exact ⟨rfl, rfl⟩
  · subst h
    rw [Cub.cmpN_eq]
    go_enter Tryz.func101, Tryz.ntmps101
    go_wp2_with (go_at_call 116; refine (isNaNi_any _ _).mono ?_; rintro e w' ⟨rfl, rfl⟩)
    go_ret
    exact ⟨rfl, rfl⟩
  · rw [Cub.cmpN_gt h]
    have h1 : (b : Int) < (a : Int) := by omega
    go_enter Tryz.func101, Tryz.ntmps101
    go_wp2_with (go_at_call 116; refine (isNaNi_any _ _).mono ?_; rintro e w' ⟨rfl, rfl⟩)
    go_ret
    exact ⟨rfl, rfl⟩

set_option maxRecDepth 100000 in
set_option maxHeartbeats 1000000 in
theorem cmp_any (x y : Value) (m n : Nat) (w : World) (hx : IsBig w x m) (hy : IsBig w y n) :
    Calls Tryz.prog 89 #[x, y] w fun e w' => e = .returned (.int .i64 (Cub.cmpN m n)) ∧ Below w.heap.size w w' := by
  obtain ⟨ap, lp, cp, rfl, hlp, hrp, hnp, rfl⟩ := hx.form
  obtain ⟨aq, lq, cq, rfl, hlq, hrq, hnq, rfl⟩ := hy.form
  have HP : Hid (Cub.normal 1000000000 lp ∧ Cells w ap lp) := ⟨hnp, hrp.cells.2.2.2⟩
  have HQ : Hid (Cub.normal 1000000000 lq ∧ Cells w aq lq) := ⟨hnq, hrq.cells.2.2.2⟩
  obtain ⟨np, hnp'⟩ : ∃ np, np = lp.length := ⟨_, rfl⟩
  obtain ⟨nq, hnq'⟩ : ∃ nq, nq = lq.length := ⟨_, rfl⟩
  rw [← hnp'] at hlp ⊢
  rw [← hnq'] at hlq ⊢
  have HNP := hide hnp'
  have HNQ := hide hnq'
  clear hx hy hrp hrq hnp hnq hnp' hnq'
  by_cases hne : np = nq
  · subst hne
    have C78 : Hid (∀ W, Calls Tryz.prog 101 #[.int .i64 (np : Int), .int .i64 (np : Int)] W fun e w' => e = .returned (.int .i64 0) ∧ w' = W) := fun W => by have h := cmpi_any np np W; rw [Cub.cmpN_eq] at h; exact h
    go_enter Tryz.func89, Tryz.ntmps89
    go_wp2_with (go_at_call 101; refine (unhide C78 _).mono ?_; rintro e w' ⟨rfl, rfl⟩)
    go_loopw [6] (fun t wr => ∃ j : Nat, j ≤ np ∧ t = .int .i64 ((j : Int) - 1) ∧ Hid (lp.drop j = lq.drop j) ∧ wr.cell? ⟨w.heap.size, 0, none⟩ = some (.slice ap np cp) ∧ wr.cell? ⟨w.heap.size + 1, 0, none⟩ = some (.slice aq np cq) ∧ Below w.heap.size w wr) (fun t _ => (intOf t + 1).toNat)
    case atStart => exact ⟨np, Nat.le_refl _, rfl, by rw [List.drop_of_length_le (by have := unhide HNP; omega), List.drop_of_length_le (by have := unhide HNQ; omega)]; exact rfl, by simp [go_sem], by simp [go_sem], ((Below.refl _ _).alloc (Nat.le_refl _) _).alloc (by simp) _⟩
    case round =>
      obtain ⟨j, hj, rfl, HD, hb1, hb2, hbl⟩ := hrel
      by_cases hj0 : j = 0
      · subst hj0
        have HF : Hid (Cub.cmpN (Cub.lval 1000000000 lp) (Cub.lval 1000000000 lq) = 0) := by
          have h := unhide HD
          rw [List.drop_zero, List.drop_zero] at h
          rw [h, Cub.cmpN_eq]; exact rfl
        go_wp2
        go_ret
        exact ⟨by rw [unhide HF]; rfl, hbl⟩
      · obtain ⟨i, rfl⟩ : ∃ i, j = i + 1 := ⟨j - 1, by omega⟩
        have hip : i < lp.length := by have := unhide HNP; omega
        have hiq : i < lq.length := by have := unhide HNQ; omega
        obtain ⟨b1, o1, rfl, hc1⟩ := (unhide HP).2 wr hbl i hip
        obtain ⟨b2, o2, rfl, hc2⟩ := (unhide HQ).2 wr hbl i hiq
        obtain ⟨xv, hxv⟩ : ∃ xv, xv = lp[i] := ⟨_, rfl⟩
        obtain ⟨yv, hyv⟩ : ∃ yv, yv = lq[i] := ⟨_, rfl⟩
        rw [← hxv] at hc1
        rw [← hyv] at hc2
        obtain ⟨c, hc⟩ : ∃ c, c = Cub.cmpN xv yv := ⟨_, rfl⟩
        have C79 : Hid (∀ W, Calls Tryz.prog 102 #[.int .u64 (xv : Int), .int .u64 (yv : Int)] W fun e w' => e = .returned (.int .i64 c) ∧ w' = W) := fun W => by have h := cmp64_any xv yv W; rw [← hc] at h; exact h
        have hin' : (i : Int) < (np : Int) := by omega
        rw [show (((i + 1 : Nat) : Int) - 1) = (i : Int) from by omega]
        by_cases hxy : xv = yv
        · have hc0 : c = 0 := by rw [hc, hxy, Cub.cmpN_eq]
          subst hc0
          have HD' : Hid (lp.drop i = lq.drop i) := by
            rw [List.drop_eq_getElem_cons hip, List.drop_eq_getElem_cons hiq, unhide HD, ← hxv, ← hyv, hxy]; exact rfl
          clear hc hxy hxv hyv hj0
          go_wp2
          go_quiet ((go_at_call 102; exact Calls.quiet_of_same (unhide C79 _)))
          go_wp2
          go_roundw
          case rel => exact ⟨i, by omega, rfl, HD', hb1, hb2, below_drewN hbl _⟩
          case measure => simp [intOf]
        · have hcz : (c != 0) = true := by
            rw [hc, bne_iff_ne]
            rcases Nat.lt_or_ge xv yv with h | h
            · rw [Cub.cmpN_lt h]; omega
            · rw [Cub.cmpN_gt (show yv < xv by omega)]; omega
          have HF : Hid (Cub.cmpN (Cub.lval 1000000000 lp) (Cub.lval 1000000000 lq) = c) := by
            have hl : lp.length = lq.length := by rw [← unhide HNP, ← unhide HNQ]
            rw [hc]
            rcases Nat.lt_or_ge xv yv with h | h
            · rw [Cub.cmpN_lt h, Cub.cmpN_lt (Cub.cmp_at (unhide HP).1.1 hl i hip (unhide HD) (by rw [← hxv, ← hyv]; exact h))]; exact rfl
            · have h' : yv < xv := by omega
              rw [Cub.cmpN_gt h', Cub.cmpN_gt (Cub.cmp_at (unhide HQ).1.1 hl.symm i hiq (unhide HD).symm (by rw [← hxv, ← hyv]; exact h'))]; exact rfl
          clear hc hxy hxv hyv hj0
          go_wp2
          go_quiet ((go_at_call 102; exact Calls.quiet_of_same (unhide C79 _)))
          go_wp2
          go_ret
          exact ⟨by rw [unhide HF]; rfl, below_drewN hbl _⟩
  · obtain ⟨c, hc⟩ : ∃ c, c = Cub.cmpN np nq := ⟨_, rfl⟩
    have hfin : Cub.cmpN (Cub.lval 1000000000 lp) (Cub.lval 1000000000 lq) = c := by
      rw [hc]
      rcases Nat.lt_or_ge np nq with h | h
      · rw [Cub.cmpN_lt h, Cub.cmpN_lt (Cub.cmp_len (unhide HP).1.1 (unhide HQ).1 (by have := unhide HNP; have := unhide HNQ; omega))]
      · rw [Cub.cmpN_gt (show nq < np by omega), Cub.cmpN_gt (Cub.cmp_len (unhide HQ).1.1 (unhide HP).1 (by have := unhide HNP; have := unhide HNQ; omega))]
    have hc0 : (c != 0) = true := by
      rw [hc, bne_iff_ne]
      rcases Nat.lt_or_ge np nq with h | h
      · rw [Cub.cmpN_lt h]; omega
      · rw [Cub.cmpN_gt (show nq < np by omega)]; omega
    have C78 : Hid (∀ W, Calls Tryz.prog 101 #[.int .i64 (np : Int), .int .i64 (nq : Int)] W fun e w' => e = .returned (.int .i64 c) ∧ w' = W) := fun W => by have h := cmpi_any np nq W; rw [← hc] at h; exact h
    rw [hfin]
    clear hfin hc
    go_enter Tryz.func89, Tryz.ntmps89
    go_wp2_with (go_at_call 101; refine (unhide C78 _).mono ?_; rintro e w' ⟨rfl, rfl⟩)
    go_ret
    exact ⟨rfl, ((Below.refl _ _).alloc (Nat.le_refl _) _).alloc (by simp) _⟩
end Go.Proofs.YtannhlmcajncaaaGreatDoor

namespace Cub

/-- In the one form: coprime, not over 0, no sign at 0. -/
structure Low (b : Bool) (n d : Nat) : Prop where
  pos : 0 < d
  cop : Nat.gcd n d = 1
  sign : b = true → n ≠ 0
/-- A size with its sign. -/
def sg (b : Bool) (n : Nat) : Int := if b then -(n : Int) else n
def valQ (b : Bool) (n d : Nat) : Rat := ((sg b n : Int) : Rat) / ((d : Nat) : Rat)
theorem sg_abs (b : Bool) (n : Nat) : (sg b n).natAbs = n := by cases b <;> simp [sg]
theorem sg_mul (b c : Bool) (n m : Nat) : sg b n * sg c m = sg (b != c) (n * m) := by
  cases b <;> cases c <;> simp [sg, Int.mul_neg, Int.neg_mul]
theorem sg_zero (b : Bool) : sg b 0 = 0 := by cases b <;> rfl
theorem dR {d : Nat} (h : 0 < d) : ((d : Nat) : Rat) ≠ 0 := by
  have : d ≠ 0 := by omega
  exact_mod_cast this
theorem div_eq_iff {a b c d : Rat} (hb : b ≠ 0) (hd : d ≠ 0) : a / b = c / d ↔ a * d = c * b := by
  constructor
  · intro h; grind
  · intro h; grind
theorem valQ_eq {b b' : Bool} {n d n' d' : Nat} (hd : 0 < d) (hd' : 0 < d') : valQ b n d = valQ b' n' d' ↔ sg b n * (d' : Int) = sg b' n' * (d : Int) := by
  unfold valQ
  rw [div_eq_iff (dR hd) (dR hd')]
  constructor
  · intro h; exact_mod_cast h
  · intro h; exact_mod_cast h
theorem low_unique {b b' : Bool} {n d n' d' : Nat} (h : Low b n d) (h' : Low b' n' d') (e : valQ b n d = valQ b' n' d') : b = b' ∧ n = n' ∧ d = d' := by
  have e1 := (valQ_eq h.pos h'.pos).1 e
  have e2 : n * d' = n' * d := by
    have := congrArg Int.natAbs e1
    rw [Int.natAbs_mul, Int.natAbs_mul, sg_abs, sg_abs] at this
    simpa using this
  have d1 : d ∣ d' := by
    have : d ∣ n * d' := ⟨n', by rw [e2, Nat.mul_comm]⟩
    exact (Nat.Coprime.dvd_of_dvd_mul_left (Nat.Coprime.symm h.cop) this)
  have d2 : d' ∣ d := by
    have : d' ∣ n' * d := ⟨n, by rw [← e2, Nat.mul_comm]⟩
    exact (Nat.Coprime.dvd_of_dvd_mul_left (Nat.Coprime.symm h'.cop) this)
  have ed : d = d' := Nat.dvd_antisymm d1 d2
  subst ed
  have en : n = n' := Nat.eq_of_mul_eq_mul_right h.pos e2
  subst en
  refine ⟨?_, rfl, rfl⟩
  have e3 : sg b n = sg b' n := Int.eq_of_mul_eq_mul_right (by have := h.pos; omega) e1
  by_cases hn : n = 0
  · have hb : b = false := by cases b with | false => rfl | true => exact absurd hn (h.sign rfl)
    have hb' : b' = false := by cases b' with | false => rfl | true => exact absurd hn (h'.sign rfl)
    rw [hb, hb']
  · cases b <;> cases b' <;> first | rfl | (exfalso; simp [sg] at e3; omega)

end Cub

namespace Cub

theorem valQ_zero (b : Bool) (d : Nat) : valQ b 0 d = 0 := by
  unfold valQ
  rw [sg_zero, Rat.div_def]
  push_cast
  exact Rat.zero_mul _
theorem inv_low {b : Bool} {n d : Nat} (h : Low b n d) (hn : n ≠ 0) : Low b d n ∧ valQ b d n = (valQ b n d)⁻¹ := by
  refine ⟨⟨by omega, by rw [Nat.gcd_comm]; exact h.cop, fun _ => by have := h.pos; omega⟩, ?_⟩
  have x1 := dR h.pos
  have x2 : ((n : Nat) : Rat) ≠ 0 := dR (by omega)
  unfold valQ sg
  cases b <;> simp only [Bool.false_eq_true, if_true, if_false] <;> push_cast <;> grind
theorem num_below (x : Rat) : x.num < 0 ↔ x < 0 := by
  have h := Rat.num_nonneg (q := x)
  constructor
  · intro h1
    exact Rat.not_le.1 fun h2 => by have := h.2 h2; omega
  · intro h1
    have : ¬ 0 ≤ x.num := fun h2 => Rat.not_le.2 h1 (h.1 h2)
    omega
/-- The one form of a rational number. -/
theorem low_of (x : Rat) : Low (decide (x < 0)) x.num.natAbs x.den ∧ valQ (decide (x < 0)) x.num.natAbs x.den = x := by
  have hs : sg (decide (x < 0)) x.num.natAbs = x.num := by
    unfold sg
    by_cases h : x < 0
    · have : x.num < 0 := (num_below x).2 h
      simp only [h, decide_true, if_true]; omega
    · have : ¬ x.num < 0 := fun h2 => h ((num_below x).1 h2)
      simp only [h, decide_false, Bool.false_eq_true, if_false]; omega
  refine ⟨⟨x.den_pos, x.reduced, fun h => ?_⟩, ?_⟩
  · have := (num_below x).2 (of_decide_eq_true h)
    omega
  · unfold valQ
    rw [hs, ← Rat.mkRat_eq_div, Rat.mkRat_self]
/-- So one in the one form is that of its value. -/
theorem low_is {b : Bool} {n d : Nat} (h : Low b n d) : b = decide (valQ b n d < 0) ∧ n = (valQ b n d).num.natAbs ∧ d = (valQ b n d).den :=
  low_unique h (low_of _).1 (low_of _).2.symm
theorem valQ_lt {b c : Bool} {n d m e : Nat} (hd : 0 < d) (he : 0 < e) : valQ b n d < valQ c m e ↔ sg b n * (e : Int) < sg c m * (d : Int) := by
  unfold valQ
  rw [Rat.div_lt_iff (Rat.natCast_pos.2 hd), Rat.div_def, show ((sg c m : Int) : Rat) * ((e : Nat) : Rat)⁻¹ * ((d : Nat) : Rat) = ((sg c m : Int) : Rat) * ((d : Nat) : Rat) / ((e : Nat) : Rat) by rw [Rat.div_def]; grind, Rat.lt_div_iff (Rat.natCast_pos.2 he)]
  constructor
  · intro h; exact_mod_cast h
  · intro h; exact_mod_cast h
/-- -1, 0, 1. -/
def cmpQ (x y : Rat) : Int := if x < y then -1 else if y < x then 1 else 0
/-- Frac.Sign. -/
theorem sign_val {b : Bool} {n d : Nat} (h : Low b n d) : (if b then -1 else if n = 0 then (0 : Int) else 1) = cmpQ (valQ b n d) 0 := by
  have hz : (0 : Rat) = valQ false 0 1 := (valQ_zero false 1).symm
  have hd := h.pos
  have hb := h.sign
  unfold cmpQ
  rw [hz]
  simp only [valQ_lt h.pos (show 0 < 1 by omega), valQ_lt (show 0 < 1 by omega) h.pos, sg_zero]
  cases b
  · by_cases hn : n = 0
    · subst hn; simp [sg]
    · have : 0 < n := by omega
      simp [sg, hn, this]
  · have : 0 < n := by have := hb rfl; omega
    simp [sg, this]
end Cub

namespace Go.Proofs.YtannhlmcajncaaaGreatDoor
open Go.RowKit

/-- Two numbers in their boxes, and the box of the result. -/
structure A3St (w W : World) (u v p : Value) : Prop where
  b1 : Box W w.heap.size u
  b2 : Box W (w.heap.size + 1) v
  b3 : Box W (w.heap.size + 1 + 1) p
  below : Below w.heap.size w W
theorem A3St.later {w W V : World} {u v p : Value} (s : A3St w W u v p) (hb : Below W.heap.size W V) : A3St w V u v p :=
  ⟨s.b1.later hb, s.b2.later hb, s.b3.later hb, s.below.trans (hb.mono s.below.size)⟩
theorem A3St.first (w : World) (u v p : Value) : A3St w (((w.alloc (.cells #[u] 58)).alloc (.cells #[v] 58)).alloc (.cells #[p] 58)) u v p :=
  ⟨⟨by simp [go_sem], by simp [go_sem]⟩, ⟨by simp [go_sem], by simp [go_sem]⟩, ⟨by simp [go_sem], by simp [go_sem]⟩,
    (((Below.refl _ _).alloc (Nat.le_refl _) _).alloc (by simp) _).alloc (by simp; omega) _⟩
theorem A3St.set3 {w W : World} {u v p : Value} (s : A3St w W u v p) (x : Value) : A3St w (W.setCell ⟨w.heap.size + 1 + 1, 0, none⟩ x) u v x :=
  ⟨s.b1.other (by omega) x, s.b2.other (by omega) x, s.b3.set x, s.below.setCell (by simp; omega) _⟩

end Go.Proofs.YtannhlmcajncaaaGreatDoor

namespace Go.Proofs.YtannhlmcajncaaaGreatDoor
open Go.RowKit

/-- A Frac holds a sign and two numbers (its cells lie flat). -/
def IsFrac (w : World) (v : Value) (b : Bool) (n d : Nat) : Prop := ∃ s t, v = .agg #[.bool b, s, t] ∧ IsBig w (.agg #[s]) n ∧ IsBig w (.agg #[t]) d
theorem IsFrac.later {w w' : World} {v : Value} {b : Bool} {n d : Nat} (h : IsFrac w v b n d) (hb : Below w.heap.size w w') : IsFrac w' v b n d := by
  obtain ⟨s, t, rfl, h1, h2⟩ := h
  exact ⟨s, t, rfl, h1.later hb, h2.later hb⟩
theorem IsFrac.form {w : World} {v : Value} {b : Bool} {n d : Nat} (h : IsFrac w v b n d) : ∃ a1 l1 c1 a2 l2 c2, v = .agg #[.bool b, .slice a1 l1 c1, .slice a2 l2 c2] ∧ IsBig w (.agg #[.slice a1 l1 c1]) n ∧ IsBig w (.agg #[.slice a2 l2 c2]) d := by
  obtain ⟨s, t, rfl, h1, h2⟩ := h
  obtain ⟨a1, l1, c1, e1⟩ := h1.shape
  obtain ⟨a2, l2, c2, e2⟩ := h2.shape
  simp only [Value.agg.injEq, Array.mk.injEq, List.cons.injEq, and_true] at e1 e2
  subst e1 e2
  exact ⟨a1, l1, c1, a2, l2, c2, rfl, h1, h2⟩
theorem inv_any (v : Value) (b : Bool) (n d : Nat) (w : World) (h : IsFrac w v b n d) :
    Calls Tryz.prog 25 #[v] w fun e w' => ∃ v', e = .returned v' ∧ IsFrac w' v' b d n ∧ Below w.heap.size w w' := by
  obtain ⟨a1, l1, c1, a2, l2, c2, rfl, h1, h2⟩ := h.form
  have H1 := hide h1
  have H2 := hide h2
  clear h h1 h2
  go_enter Tryz.func25, Tryz.ntmps25
  go_wp2
  have hb : Below w.heap.size w ((w.alloc (.cells #[.bool b, .slice a1 l1 c1, .slice a2 l2 c2] 60)).alloc (.cells #[.bool b, .slice a2 l2 c2, .slice a1 l1 c1] 60)) := ((Below.refl _ _).alloc (Nat.le_refl _) _).alloc (by simp) _
  exact bodyPost_ret (v := .agg #[.bool b, .slice a2 l2 c2, .slice a1 l1 c1]) (by simp [results, Tryz.results25, go_sem]) rfl ⟨_, rfl, ⟨_, _, rfl, (unhide H2).later hb, (unhide H1).later hb⟩, hb⟩
/-- Frac.Sign, as an answer. -/
def signI (b : Bool) (n : Nat) : Int := if b then -1 else if n = 0 then 0 else 1
theorem sign_any (v : Value) (b : Bool) (n d : Nat) (w : World) (h : IsFrac w v b n d) :
    Calls Tryz.prog 24 #[v] w fun e w' => e = .returned (.int .i64 (signI b n)) ∧ Below w.heap.size w w' := by
  obtain ⟨a1, l1, c1, a2, l2, c2, rfl, h1, h2⟩ := h.form
  have hb : Below w.heap.size w (w.alloc (.cells #[.bool b, .slice a1 l1 c1, .slice a2 l2 c2] 60)) := (Below.refl _ _).alloc (Nat.le_refl _) _
  have H37 := hide (isZero_any _ n _ (h1.later hb))
  have HB := hide hb
  clear h h1 h2 hb
  cases b with
  | true =>
    go_enter Tryz.func24, Tryz.ntmps24
    go_wp2
    go_ret
    exact ⟨rfl, unhide HB⟩
  | false =>
    by_cases hn : n = 0
    · subst hn
      go_enter Tryz.func24, Tryz.ntmps24
      go_wp2_with (go_at_call 73; go_must (refine (unhide H37).mono ?_; rintro e w1 ⟨rfl, hb1⟩; have HB1 := hide ((unhide HB).trans (hb1.mono (unhide HB).size)); clear hb1))
      go_ret
      exact ⟨rfl, unhide HB1⟩
    · have e : (n == 0) = false := by rw [beq_eq_false_iff_ne]; exact hn
      have HE : Hid (signI false n = 1) := by show _ = _; simp [signI, hn]
      rw [e] at H37
      rw [unhide HE]
      clear e hn HE
      go_enter Tryz.func24, Tryz.ntmps24
      go_wp2_with (go_at_call 73; go_must (refine (unhide H37).mono ?_; rintro e w1 ⟨rfl, hb1⟩; have HB1 := hide ((unhide HB).trans (hb1.mono (unhide HB).size)); clear hb1))
      go_ret
      exact ⟨rfl, unhide HB1⟩
end Go.Proofs.YtannhlmcajncaaaGreatDoor

namespace Go.Proofs.YtannhlmcajncaaaGreatDoor
open Go.RowKit

/-- A Frac's box: three cells. -/
structure FBox (W : World) (g : Nat) (x y z : Value) : Prop where
  c0 : W.cell? ⟨g, 0, none⟩ = some x
  c1 : W.cell? ⟨g, 1, none⟩ = some y
  c2 : W.cell? ⟨g, 2, none⟩ = some z
  f0 : W.frozen? ⟨g, 0, none⟩ = false
  f1 : W.frozen? ⟨g, 1, none⟩ = false
  f2 : W.frozen? ⟨g, 2, none⟩ = false
theorem FBox.lt {W : World} {g : Nat} {x y z : Value} (h : FBox W g x y z) : g < W.heap.size := World.block_lt_of_cell? _ _ h.c0
theorem FBox.later {W V : World} {g : Nat} {x y z : Value} (h : FBox W g x y z) (hb : Below W.heap.size W V) : FBox V g x y z :=
  ⟨(hb.cell (p := ⟨g, 0, none⟩) h.lt).trans h.c0, (hb.cell (p := ⟨g, 1, none⟩) h.lt).trans h.c1, (hb.cell (p := ⟨g, 2, none⟩) h.lt).trans h.c2,
    (hb.frozen (p := ⟨g, 0, none⟩) h.lt).trans h.f0, (hb.frozen (p := ⟨g, 1, none⟩) h.lt).trans h.f1, (hb.frozen (p := ⟨g, 2, none⟩) h.lt).trans h.f2⟩
/-- A whole Frac stored into its box. -/
def store3 (W : World) (g : Nat) (x y z : Value) : World := ((W.setCell ⟨g, 0, none⟩ x).setCell ⟨g, 1, none⟩ y).setCell ⟨g, 2, none⟩ z
theorem FBox.store {W : World} {g : Nat} {x y z : Value} (h : FBox W g x y z) (x' y' z' : Value) : FBox (store3 W g x' y' z') g x' y' z' := by
  have a1 : (W.setCell ⟨g, 0, none⟩ x').cell? ⟨g, 1, none⟩ = some y := by rw [World.cell?_setCell_other _ _ _ _ (by simp)]; exact h.c1
  have a2 : ((W.setCell ⟨g, 0, none⟩ x').setCell ⟨g, 1, none⟩ y').cell? ⟨g, 2, none⟩ = some z := by rw [World.cell?_setCell_other _ _ _ _ (by simp), World.cell?_setCell_other _ _ _ _ (by simp)]; exact h.c2
  unfold store3
  refine ⟨?_, ?_, World.cell?_setCell_same _ _ _ a2, ?_, ?_, ?_⟩
  · rw [World.cell?_setCell_other _ _ _ _ (by simp), World.cell?_setCell_other _ _ _ _ (by simp)]; exact World.cell?_setCell_same _ _ _ h.c0
  · rw [World.cell?_setCell_other _ _ _ _ (by simp)]; exact World.cell?_setCell_same _ _ _ a1
  · rw [World.frozen?_setCell, World.frozen?_setCell, World.frozen?_setCell]; exact h.f0
  · rw [World.frozen?_setCell, World.frozen?_setCell, World.frozen?_setCell]; exact h.f1
  · rw [World.frozen?_setCell, World.frozen?_setCell, World.frozen?_setCell]; exact h.f2
theorem FBox.big {W : World} {g : Nat} {b : Bool} {a1 a2 : Option Addr} {l1 c1 l2 c2 : Nat} (h : FBox W g (.bool b) (.slice a1 l1 c1) (.slice a2 l2 c2)) (x' y' z' : Value) {v : Value} {n : Nat} (hv : IsBig W v n) : IsBig (store3 W g x' y' z') v n := by
  have e1 : (W.setCell ⟨g, 0, none⟩ x').cell? ⟨g, 1, none⟩ = some (.slice a1 l1 c1) := by rw [World.cell?_setCell_other _ _ _ _ (by simp)]; exact h.c1
  have e2 : ((W.setCell ⟨g, 0, none⟩ x').setCell ⟨g, 1, none⟩ y').cell? ⟨g, 2, none⟩ = some (.slice a2 l2 c2) := by rw [World.cell?_setCell_other _ _ _ _ (by simp), World.cell?_setCell_other _ _ _ _ (by simp)]; exact h.c2
  exact ((hv.box _ h.c0 (fun _ _ e => by cases e)).box _ e1 (not_int _ _ _)).box _ e2 (not_int _ _ _)
theorem below_store3 {B g : Nat} {w W : World} (h : Below B w W) (hg : B ≤ g) (x y z : Value) : Below B w (store3 W g x y z) :=
  ((h.setCell (p := ⟨g, 0, none⟩) hg x).setCell (p := ⟨g, 1, none⟩) hg y).setCell (p := ⟨g, 2, none⟩) hg z

end Go.Proofs.YtannhlmcajncaaaGreatDoor

namespace Go.Proofs.YtannhlmcajncaaaGreatDoor
open Go.RowKit

theorem FBox.other {W : World} {g k : Nat} {x y z : Value} (h : FBox W g x y z) (hk : g ≠ k) (u : Value) : FBox (W.setCell ⟨k, 0, none⟩ u) g x y z :=
  ⟨by rw [World.cell?_setCell_other _ _ _ _ (by intro e; cases e; exact hk rfl)]; exact h.c0, by rw [World.cell?_setCell_other _ _ _ _ (by intro e; cases e)]; exact h.c1, by rw [World.cell?_setCell_other _ _ _ _ (by intro e; cases e)]; exact h.c2,
    by rw [World.frozen?_setCell]; exact h.f0, by rw [World.frozen?_setCell]; exact h.f1, by rw [World.frozen?_setCell]; exact h.f2⟩
/-- Two numbers in their boxes, and a Frac's box. -/
structure RSt (w W : World) (u v : Value) : Prop where
  b1 : Box W w.heap.size u
  b2 : Box W (w.heap.size + 1) v
  b3 : FBox W (w.heap.size + 1 + 1) (.bool false) (.slice none 0 0) (.slice none 0 0)
  below : Below w.heap.size w W
theorem RSt.later {w W V : World} {u v : Value} (s : RSt w W u v) (hb : Below W.heap.size W V) : RSt w V u v :=
  ⟨s.b1.later hb, s.b2.later hb, s.b3.later hb, s.below.trans (hb.mono s.below.size)⟩
theorem RSt.first (w : World) (u v : Value) : RSt w (((w.alloc (.cells #[u] 58)).alloc (.cells #[v] 58)).alloc (.cells #[.bool false, .slice none 0 0, .slice none 0 0] 60)) u v :=
  ⟨⟨by simp [go_sem], by simp [go_sem]⟩, ⟨by simp [go_sem], by simp [go_sem]⟩, ⟨by simp [go_sem], by simp [go_sem], by simp [go_sem], by simp [go_sem], by simp [go_sem], by simp [go_sem]⟩,
    (((Below.refl _ _).alloc (Nat.le_refl _) _).alloc (by simp) _).alloc (by simp; omega) _⟩
theorem RSt.both {w W : World} {u v : Value} (s : RSt w W u v) (x y : Value) : RSt w ((W.setCell ⟨w.heap.size, 0, none⟩ x).setCell ⟨w.heap.size + 1, 0, none⟩ y) x y :=
  ⟨(s.b1.set x).other (by omega) y, (s.b2.other (by omega) x).set y, (s.b3.other (by omega) x).other (by omega) y, (s.below.setCell (by simp) _).setCell (by simp) _⟩

end Go.Proofs.YtannhlmcajncaaaGreatDoor

namespace Cub
/-- After an even number of steps: x, y are what the steps make of x0, y0; the signs alternate; both ends stay at 0 or above. (After an odd number: the same with the columns exchanged.) -/
structure Ev (x0 y0 x y A B C D : Int) : Prop where
  ex : x = A * x0 + B * y0
  ey : y = C * x0 + D * y0
  sA : 0 ≤ A
  sB : B ≤ 0
  sC : C ≤ 0
  sD : 0 ≤ D
  det : A * D - B * C = 1
  p1 : 0 ≤ x + A
  p2 : 0 ≤ x + B
  r1 : 0 ≤ y + C
  r2 : 0 ≤ y + D
  bA : A ≤ 1000000000
  bB : -1000000000 ≤ B
  bC : -1000000000 ≤ C
  bD : D ≤ 1000000000
theorem Ev.start (x0 y0 : Int) (hx : 0 ≤ x0) (hy : 0 ≤ y0) : Ev x0 y0 x0 y0 1 0 0 1 := by
  constructor <;> omega
theorem sq_bound {C y : Int} (h0 : 0 ≤ C) (h1 : C ≤ y) (h2 : C * y < 1000000000000000000) : C ≤ 1000000000 := by
  apply Decidable.byContradiction
  intro hc
  have h3 : 1000000000 ≤ y := by omega
  have h4 : 1000000000 * 1000000000 ≤ C * y := Int.mul_le_mul (by omega) h3 (by omega) (by omega)
  omega
theorem Ev.step {x0 y0 x y A B C D q : Int} (h : Ev x0 y0 x y A B C D) (hq : 0 ≤ q) (a1 : q * (y + C) ≤ x + A) (a2 : x + A < q * (y + C) + (y + C)) (b1 : q * (y + D) ≤ x + B)
    (hx : x0 < 1000000000000000000) (hy : y0 < 1000000000000000000) : Ev y0 x0 y (x - q * y) D C (B - q * D) (A - q * C) := by
  have qD : 0 ≤ q * D := Int.mul_nonneg hq h.sD
  have qC : q * C ≤ 0 := Int.mul_nonpos_of_nonneg_of_nonpos hq h.sC
  have e1 : q * (y + C) = q * y + q * C := Int.mul_add ..
  have e2 : q * (y + D) = q * y + q * D := Int.mul_add ..
  have sA := h.sA; have sB := h.sB; have sC := h.sC; have sD := h.sD
  have ex := h.ex; have ey := h.ey; have det := h.det
  have r1 := h.r1; have r2 := h.r2
  have hy1 : 0 ≤ x - q * y := by omega
  have k1 : (A - q * C) * y - C * (x - q * y) = y0 := by
    have : (A - q * C) * y - C * (x - q * y) = A * y - C * x := by grind
    rw [this, ex, ey]
    have : A * (C * x0 + D * y0) - C * (A * x0 + B * y0) = (A * D - B * C) * y0 := by grind
    rw [this, det, Int.one_mul]
  have k2 : (q * D - B) * y + D * (x - q * y) = x0 := by
    have : (q * D - B) * y + D * (x - q * y) = D * x - B * y := by grind
    rw [this, ex, ey]
    have : D * (A * x0 + B * y0) - B * (C * x0 + D * y0) = (A * D - B * C) * x0 := by grind
    rw [this, det, Int.one_mul]
  have m1 : 0 ≤ -(C * (x - q * y)) := by
    have := Int.mul_nonpos_of_nonpos_of_nonneg sC hy1
    omega
  have m2 : 0 ≤ D * (x - q * y) := Int.mul_nonneg sD hy1
  have c1 : A - q * C ≤ 1000000000 := sq_bound (y := y) (by omega) (by omega) (by omega)
  have c2 : q * D - B ≤ 1000000000 := sq_bound (y := y) (by omega) (by omega) (by omega)
  refine ⟨?_, ?_, sD, sC, by omega, by omega, ?_, r2, r1, by omega, by omega, h.bD, h.bC, by omega, c1⟩
  · rw [ey]; omega
  · rw [ex, ey]; grind
  · have : D * (A - q * C) - C * (B - q * D) = A * D - B * C := by grind
    rw [this, det]
/-- The numbers themselves: what is left is not below 0, and below what divides. -/
theorem Ev.rest {x0 y0 x y A B C D q b c U P u v : Int} (h : Ev x0 y0 x y A B C D) (hq : 0 ≤ q) (a2 : x + A < q * (y + C) + (y + C)) (b1 : q * (y + D) ≤ x + B)
    (hb : b * U = x0 * P + u) (hc : c * U = y0 * P + v) (hu : 0 ≤ u) (hu2 : u ≤ P) (hv : 0 ≤ v) (hv2 : v ≤ P) (hP : 0 < P) (hU : 0 < U) :
    0 ≤ (A * b + B * c) - q * (C * b + D * c) ∧ (A * b + B * c) - q * (C * b + D * c) < C * b + D * c := by
  have qD : 0 ≤ q * D := Int.mul_nonneg hq h.sD
  have qC : q * C ≤ 0 := Int.mul_nonpos_of_nonneg_of_nonpos hq h.sC
  have sA := h.sA; have sB := h.sB; have sC := h.sC; have sD := h.sD
  have ex := h.ex; have ey := h.ey
  have e1 : U * ((A * b + B * c) - q * (C * b + D * c)) = (x - q * y) * P + (A - q * C) * u + (B - q * D) * v := by
    have : U * ((A * b + B * c) - q * (C * b + D * c)) = A * (b * U) + B * (c * U) - q * (C * (b * U) + D * (c * U)) := by grind
    rw [this, hb, hc, ex, ey]; grind
  have e2 : U * (C * b + D * c) = y * P + C * u + D * v := by
    have : U * (C * b + D * c) = C * (b * U) + D * (c * U) := by grind
    rw [this, hb, hc, ey]; grind
  have m1 : 0 ≤ (A - q * C) * u := Int.mul_nonneg (by omega) hu
  have m2 : (B - q * D) * P ≤ (B - q * D) * v := Int.mul_le_mul_of_nonpos_left (by omega) hv2
  have m3 : 0 ≤ ((x + B) - q * (y + D)) * P := Int.mul_nonneg (by omega) (by omega)
  have m4 : (x - q * y) * P + (B - q * D) * P = ((x + B) - q * (y + D)) * P := by grind
  have n1 : (A - q * C - C) * u ≤ (A - q * C - C) * P := Int.mul_le_mul_of_nonneg_left hu2 (by omega)
  have n2 : (B - q * D - D) * v ≤ 0 := Int.mul_nonpos_of_nonpos_of_nonneg (by omega) hv
  have n3 : ((x + A) - q * (y + C) - (y + C)) * P < 0 := Int.mul_neg_of_neg_of_pos (by omega) hP
  have n4 : (x - q * y) * P - y * P + (A - q * C - C) * P = ((x + A) - q * (y + C) - (y + C)) * P := by grind
  have n5 : (A - q * C - C) * u = (A - q * C) * u - C * u := by grind
  have n6 : (B - q * D - D) * v = (B - q * D) * v - D * v := by grind
  refine ⟨?_, ?_⟩
  · apply Decidable.byContradiction
    intro hn
    have : U * ((A * b + B * c) - q * (C * b + D * c)) < 0 := Int.mul_neg_of_pos_of_neg hU (by omega)
    omega
  · apply Decidable.byContradiction
    intro hn
    have h1 : U * (C * b + D * c) ≤ U * ((A * b + B * c) - q * (C * b + D * c)) := Int.mul_le_mul_of_nonneg_left (by omega) (by omega)
    omega
/-- A step of Euclid's keeps the greatest common divisor. -/
theorem gcd_step (b c q : Int) : Int.gcd c (b - q * c) = Int.gcd b c := by
  rw [Int.gcd_comm, Int.sub_eq_add_neg, ← Int.neg_mul, Int.gcd_add_mul_right_left]
end Cub
