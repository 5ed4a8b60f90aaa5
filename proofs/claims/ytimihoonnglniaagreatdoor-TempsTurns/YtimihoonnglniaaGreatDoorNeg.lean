/- Frac.Neg. -/
import Derived.Test.YtimihoonnglniaaGreatDoorAdd
import Derived.Test.YtimihoonnglniaaGreatDoorCmp
import Derived.Deep.RegionHeld3
namespace Cub

/-- In the one form: coprime, not over 0, no sign at 0. -/
structure Low (b : Bool) (n d : Nat) : Prop where
  pos : 0 < d
  cop : Nat.gcd n d = 1
  sign : b = true → n ≠ 0
/-- A size with its sign. -/
def sg (b : Bool) (n : Nat) : Int := if b then -(n : Int) else n
def valQ (b : Bool) (n d : Nat) : Rat := ((sg b n : Int) : Rat) / ((d : Nat) : Rat)
theorem sg_abs (b : Bool) (n : Nat) : (sg b n).natAbs = n := by cases b <;> simp [sg]
theorem sg_mul (b c : Bool) (n m : Nat) : sg b n * sg c m = sg (b != c) (n * m) := by
  cases b <;> cases c <;> simp [sg, Int.mul_neg, Int.neg_mul]
theorem sg_mulNat (b : Bool) (n m : Nat) : sg b n * (m : Int) = sg b (n * m) := by cases b <;> simp [sg, Int.neg_mul]
theorem sg_neg (b : Bool) (n : Nat) : sg (!b) n = -sg b n := by cases b <;> simp [sg]
theorem sg_zero (b : Bool) : sg b 0 = 0 := by cases b <;> rfl
theorem dR {d : Nat} (h : 0 < d) : ((d : Nat) : Rat) ≠ 0 := by
  have : d ≠ 0 := by omega
  exact_mod_cast this
theorem div_eq_iff {a b c d : Rat} (hb : b ≠ 0) (hd : d ≠ 0) : a / b = c / d ↔ a * d = c * b := by
  constructor
  · intro h; grind
  · intro h; grind
theorem valQ_eq {b b' : Bool} {n d n' d' : Nat} (hd : 0 < d) (hd' : 0 < d') : valQ b n d = valQ b' n' d' ↔ sg b n * (d' : Int) = sg b' n' * (d : Int) := by
  unfold valQ
  rw [div_eq_iff (dR hd) (dR hd')]
  constructor
  · intro h; exact_mod_cast h
  · intro h; exact_mod_cast h
theorem low_unique {b b' : Bool} {n d n' d' : Nat} (h : Low b n d) (h' : Low b' n' d') (e : valQ b n d = valQ b' n' d') : b = b' ∧ n = n' ∧ d = d' := by
  have e1 := (valQ_eq h.pos h'.pos).1 e
  have e2 : n * d' = n' * d := by
    have := congrArg Int.natAbs e1
    rw [Int.natAbs_mul, Int.natAbs_mul, sg_abs, sg_abs] at this
    simpa using this
  have d1 : d ∣ d' := by
    have : d ∣ n * d' := ⟨n', by rw [e2, Nat.mul_comm]⟩
    exact (Nat.Coprime.dvd_of_dvd_mul_left (Nat.Coprime.symm h.cop) this)
  have d2 : d' ∣ d := by
    have : d' ∣ n' * d := ⟨n, by rw [← e2, Nat.mul_comm]⟩
    exact (Nat.Coprime.dvd_of_dvd_mul_left (Nat.Coprime.symm h'.cop) this)
  have ed : d = d' := Nat.dvd_antisymm d1 d2
  subst ed
  have en : n = n' := Nat.eq_of_mul_eq_mul_right h.pos e2
  subst en
  refine ⟨?_, rfl, rfl⟩
  have e3 : sg b n = sg b' n := Int.eq_of_mul_eq_mul_right (by have := h.pos; omega) e1
  by_cases hn : n = 0
  · have hb : b = false := by cases b with | false => rfl | true => exact absurd hn (h.sign rfl)
    have hb' : b' = false := by cases b' with | false => rfl | true => exact absurd hn (h'.sign rfl)
    rw [hb, hb']
  · cases b <;> cases b' <;> first | rfl | (exfalso; simp [sg] at e3; omega)

/-- Both divided by what they share. -/
theorem lowest_cop {n d : Nat} (hd : 0 < d) : Nat.gcd (n / Nat.gcd n d) (d / Nat.gcd n d) = 1 ∧ 0 < d / Nat.gcd n d ∧ n / Nat.gcd n d * d = n * (d / Nat.gcd n d) := by
  have hg : 0 < Nat.gcd n d := Nat.gcd_pos_of_pos_right _ hd
  obtain ⟨a, ha⟩ := Nat.gcd_dvd_left n d
  obtain ⟨c, hc⟩ := Nat.gcd_dvd_right n d
  have h1 : n / Nat.gcd n d = a := by rw [Nat.div_eq_of_eq_mul_right hg ha]
  have h2 : d / Nat.gcd n d = c := by rw [Nat.div_eq_of_eq_mul_right hg hc]
  refine ⟨Nat.coprime_div_gcd_div_gcd hg, ?_, ?_⟩
  · rw [h2]
    rcases Nat.eq_zero_or_pos c with h | h
    · rw [h] at hc; omega
    · exact h
  · rw [h1, h2]
    generalize Nat.gcd n d = g at *
    rw [ha, hc]
    grind
/-- rat.Ratio. -/
theorem ratio_low {b : Bool} {n d : Nat} (hd : 0 < d) : Low (b && decide (n / Nat.gcd n d ≠ 0)) (n / Nat.gcd n d) (d / Nat.gcd n d) ∧ valQ (b && decide (n / Nat.gcd n d ≠ 0)) (n / Nat.gcd n d) (d / Nat.gcd n d) = valQ b n d := by
  obtain ⟨h1, h2, h3⟩ := lowest_cop (n := n) hd
  refine ⟨⟨h2, h1, fun h => by rw [Bool.and_eq_true, decide_eq_true_iff] at h; exact h.2⟩, ?_⟩
  rw [valQ_eq h2 hd]
  generalize n / Nat.gcd n d = a at *
  generalize d / Nat.gcd n d = c at *
  rw [sg_mulNat, sg_mulNat, h3]
  by_cases ha : a = 0
  · subst ha
    simp only [Nat.zero_mul] at h3
    rw [← h3, sg_zero, sg_zero]
  · simp [ha]
/-- rat.times of two: each above against the other's below. -/
theorem mul_low {b c : Bool} {n d m e : Nat} (h : Low b n d) (k : Low c m e) :
    Low ((b != c) && decide (n / Nat.gcd n e * (m / Nat.gcd m d) ≠ 0)) (n / Nat.gcd n e * (m / Nat.gcd m d)) (d / Nat.gcd m d * (e / Nat.gcd n e)) ∧
      valQ ((b != c) && decide (n / Nat.gcd n e * (m / Nat.gcd m d) ≠ 0)) (n / Nat.gcd n e * (m / Nat.gcd m d)) (d / Nat.gcd m d * (e / Nat.gcd n e)) = valQ b n d * valQ c m e := by
  obtain ⟨p1, p2, p3⟩ := lowest_cop (n := n) k.pos
  obtain ⟨q1, q2, q3⟩ := lowest_cop (n := m) h.pos
  have hn : n / Nat.gcd n e ∣ n := Nat.div_dvd_of_dvd (Nat.gcd_dvd_left n e)
  have hm : m / Nat.gcd m d ∣ m := Nat.div_dvd_of_dvd (Nat.gcd_dvd_left m d)
  have hd : d / Nat.gcd m d ∣ d := Nat.div_dvd_of_dvd (Nat.gcd_dvd_right m d)
  have he : e / Nat.gcd n e ∣ e := Nat.div_dvd_of_dvd (Nat.gcd_dvd_right n e)
  have hk := k.pos
  have hh := h.pos
  have c1 : Nat.Coprime (n / Nat.gcd n e) (d / Nat.gcd m d) := Nat.Coprime.coprime_dvd_left hn (Nat.Coprime.coprime_dvd_right hd h.cop)
  have c2 : Nat.Coprime (m / Nat.gcd m d) (e / Nat.gcd n e) := Nat.Coprime.coprime_dvd_left hm (Nat.Coprime.coprime_dvd_right he k.cop)
  generalize n / Nat.gcd n e = n' at *
  generalize e / Nat.gcd n e = e' at *
  generalize m / Nat.gcd m d = m' at *
  generalize d / Nat.gcd m d = d' at *
  have hpos : 0 < d' * e' := Nat.mul_pos q2 p2
  refine ⟨⟨hpos, ?_, fun hs => by rw [Bool.and_eq_true, decide_eq_true_iff] at hs; exact hs.2⟩, ?_⟩
  · have a1 : Nat.Coprime n' (d' * e') := Nat.Coprime.mul_right c1 p1
    have a2 : Nat.Coprime m' (d' * e') := Nat.Coprime.mul_right q1 c2
    exact Nat.Coprime.mul_left a1 a2
  · have e1 : valQ b n d * valQ c m e = valQ (b != c) (n * m) (d * e) := by
      unfold valQ
      rw [← sg_mul]
      have x1 := dR hh
      have x2 := dR hk
      push_cast
      grind
    rw [e1, valQ_eq hpos (Nat.mul_pos hh hk), sg_mulNat, sg_mulNat]
    have e2 : n' * m' * (d * e) = n * m * (d' * e') := by
      have : (n' * e) * (m' * d) = (n * e') * (m * d') := by rw [p3, q3]
      grind
    rw [e2]
    by_cases h0 : n' * m' = 0
    · rw [h0, Nat.zero_mul] at e2
      rw [← e2, sg_zero, sg_zero]
    · simp [h0]
end Cub

namespace Cub

/-- The sum of two numbers, each with its sign. -/
def addSg (b : Bool) (x : Nat) (c : Bool) (y : Nat) : Bool × Nat := if b = c then (b, x + y) else if x < y then (c, y - x) else (b, x - y)
theorem addSg_val (b : Bool) (x : Nat) (c : Bool) (y : Nat) : sg (addSg b x c y).1 (addSg b x c y).2 = sg b x + sg c y := by
  unfold addSg
  by_cases h : b = c
  · subst h
    rw [if_pos rfl]
    cases b <;> simp [sg] <;> omega
  · rw [if_neg h]
    by_cases hx : x < y
    · rw [if_pos hx]
      cases b <;> cases c <;> simp [sg] at h ⊢ <;> omega
    · rw [if_neg hx]
      cases b <;> cases c <;> simp [sg] at h ⊢ <;> omega
theorem valQ_add {b c bb : Bool} {n d k e m : Nat} (hd : 0 < d) (he : 0 < e) (h : sg bb m = sg b (n * e) + sg c (k * d)) : valQ bb m (d * e) = valQ b n d + valQ c k e := by
  unfold valQ
  rw [h, ← sg_mulNat, ← sg_mulNat]
  have x1 := dR hd
  have x2 := dR he
  push_cast
  grind
theorem valQ_zero (b : Bool) (d : Nat) : valQ b 0 d = 0 := by
  unfold valQ
  rw [sg_zero, Rat.div_def]
  push_cast
  exact Rat.zero_mul _
theorem low_zero : Low false 0 1 := ⟨by omega, by simp, fun h => by cases h⟩
/-- One that divides both a sum's size and one part of it divides the other part. -/
theorem dvd_part {bb b c : Bool} {m x y k : Nat} (h : sg bb m = sg b x + sg c y) (hm : k ∣ m) (hy : k ∣ y) : k ∣ x := by
  have a1 : (k : Int) ∣ sg bb m := Int.ofNat_dvd_left.2 (by rw [sg_abs]; exact hm)
  have a2 : (k : Int) ∣ sg c y := Int.ofNat_dvd_left.2 (by rw [sg_abs]; exact hy)
  rw [h] at a1
  have a3 : (k : Int) ∣ sg b x := (Int.dvd_add_left a2).1 a1
  have a4 := Int.ofNat_dvd_left.1 a3
  rwa [sg_abs] at a4
theorem cop_of {x y : Nat} (h : ∀ k, k ∣ x → k ∣ y → k ∣ 1) : Nat.gcd x y = 1 := Nat.dvd_one.1 (h _ (Nat.gcd_dvd_left x y) (Nat.gcd_dvd_right x y))

/-- rat.Frac.Add: with s what both below share, f and g the rest of them, m the size above. -/
theorem add_low {b c : Bool} {n d k e : Nat} (h : Low b n d) (h' : Low c k e) {s f g m : Nat} {bb : Bool} (hs : s = Nat.gcd d e) (hf : f = d / s) (hg : g = e / s) (hm : (bb, m) = addSg b (n * g) c (k * f)) :
    (m / Nat.gcd m s = 0 → valQ b n d + valQ c k e = 0) ∧ (m / Nat.gcd m s ≠ 0 → Low bb (m / Nat.gcd m s) (s / Nat.gcd m s * f * g) ∧ valQ bb (m / Nat.gcd m s) (s / Nat.gcd m s * f * g) = valQ b n d + valQ c k e) := by
  have hd := h.pos
  have he := h'.pos
  have spos : 0 < s := by rw [hs]; exact Nat.gcd_pos_of_pos_left _ hd
  have sd : s ∣ d := by rw [hs]; exact Nat.gcd_dvd_left d e
  have se : s ∣ e := by rw [hs]; exact Nat.gcd_dvd_right d e
  have ed : d = s * f := by rw [hf]; exact (Nat.mul_div_cancel' sd).symm
  have ee : e = s * g := by rw [hg]; exact (Nat.mul_div_cancel' se).symm
  have cfg : Nat.Coprime f g := by rw [hf, hg, hs]; exact Nat.coprime_div_gcd_div_gcd (by rw [← hs]; exact spos)
  have hv : sg bb m = sg b (n * g) + sg c (k * f) := by
    have := addSg_val b (n * g) c (k * f)
    rw [← hm] at this
    exact this
  have fpos : 0 < f := by rcases Nat.eq_zero_or_pos f with h0 | h0; · rw [h0, Nat.mul_zero] at ed; omega
                          · exact h0
  have gpos : 0 < g := by rcases Nat.eq_zero_or_pos g with h0 | h0; · rw [h0, Nat.mul_zero] at ee; omega
                          · exact h0
  -- the sum over s * f * g
  have hsum : valQ bb m (s * f * g) = valQ b n d + valQ c k e := by
    have e1 : sg bb (m * s) = sg b (n * e) + sg c (k * d) := by
      rw [← sg_mulNat, hv, ee, ed, Int.add_mul, sg_mulNat, sg_mulNat]
      congr 2 <;> grind
    rw [← valQ_add hd he e1, valQ_eq (Nat.mul_pos (Nat.mul_pos spos fpos) gpos) (Nat.mul_pos hd he), sg_mulNat, sg_mulNat]
    congr 1
    rw [ed, ee]
    grind
  obtain ⟨q1, q2, q3⟩ := lowest_cop (n := m) spos
  have hgm : m / Nat.gcd m s ∣ m := Nat.div_dvd_of_dvd (Nat.gcd_dvd_left m s)
  refine ⟨fun h0 => ?_, fun h0 => ?_⟩
  · rw [h0] at hgm
    have : m = 0 := Nat.zero_dvd.1 hgm
    rw [← hsum, this, valQ_zero]
  · generalize m / Nat.gcd m s = m' at *
    generalize s / Nat.gcd m s = s' at *
    have pos' : 0 < s' * f * g := Nat.mul_pos (Nat.mul_pos q2 fpos) gpos
    refine ⟨⟨pos', ?_, fun _ => h0⟩, ?_⟩
    · have cf : Nat.Coprime m' f := cop_of fun t ht hf' => by
        have t1 : t ∣ n * g := dvd_part hv (Nat.dvd_trans ht hgm) (Nat.dvd_trans hf' (Nat.dvd_mul_left f k))
        have t2 : Nat.Coprime t n := Nat.Coprime.symm (Nat.Coprime.coprime_dvd_right (Nat.dvd_trans hf' ⟨s, by rw [ed, Nat.mul_comm]⟩) h.cop)
        have t3 : t ∣ g := Nat.Coprime.dvd_of_dvd_mul_left t2 t1
        have t4 := Nat.dvd_gcd hf' t3
        rw [cfg] at t4
        exact t4
      have cg : Nat.Coprime m' g := cop_of fun t ht hg' => by
        have t1 : t ∣ k * f := dvd_part (x := k * f) (y := n * g) (b := c) (c := b) (by rw [hv, Int.add_comm]) (Nat.dvd_trans ht hgm) (Nat.dvd_trans hg' (Nat.dvd_mul_left g n))
        have t2 : Nat.Coprime t k := Nat.Coprime.symm (Nat.Coprime.coprime_dvd_right (Nat.dvd_trans hg' ⟨s, by rw [ee, Nat.mul_comm]⟩) h'.cop)
        have t3 : t ∣ f := Nat.Coprime.dvd_of_dvd_mul_left t2 t1
        have t4 := Nat.dvd_gcd t3 hg'
        rw [cfg] at t4
        exact t4
      exact Nat.Coprime.mul_right (Nat.Coprime.mul_right q1 cf) cg
    · rw [← hsum, valQ_eq pos' (Nat.mul_pos (Nat.mul_pos spos fpos) gpos), sg_mulNat, sg_mulNat]
      congr 1
      have : m' * s * (f * g) = m * s' * (f * g) := by rw [q3]
      grind
/-- The document's sum: over the product of both below. -/
theorem refAdd_val {b c bb : Bool} {n d k e m : Nat} (h : Low b n d) (h' : Low c k e) (hm : (bb, m) = addSg b (n * e) c (k * d)) : valQ bb m (d * e) = valQ b n d + valQ c k e := by
  refine valQ_add h.pos h'.pos ?_
  have := addSg_val b (n * e) c (k * d)
  rw [← hm] at this
  exact this
/-- What is opposite; one divided by it. -/
theorem neg_low {b : Bool} {n d : Nat} (h : Low b n d) : Low (!b && decide (n ≠ 0)) n d ∧ valQ (!b && decide (n ≠ 0)) n d = -valQ b n d := by
  refine ⟨⟨h.pos, h.cop, fun hs => by rw [Bool.and_eq_true, decide_eq_true_iff] at hs; exact hs.2⟩, ?_⟩
  by_cases h0 : n = 0
  · subst h0; rw [valQ_zero, valQ_zero]; simp
  · simp only [h0, ne_eq, not_false_eq_true, decide_true, Bool.and_true]
    unfold valQ
    rw [sg_neg]
    push_cast
    grind
theorem inv_low {b : Bool} {n d : Nat} (h : Low b n d) (hn : n ≠ 0) : Low b d n ∧ valQ b d n = (valQ b n d)⁻¹ := by
  refine ⟨⟨by omega, by rw [Nat.gcd_comm]; exact h.cop, fun _ => by have := h.pos; omega⟩, ?_⟩
  have x1 := dR h.pos
  have x2 : ((n : Nat) : Rat) ≠ 0 := dR (by omega)
  unfold valQ sg
  cases b <;> simp only [Bool.false_eq_true, if_true, if_false] <;> push_cast <;> grind
theorem num_below (x : Rat) : x.num < 0 ↔ x < 0 := by
  have h := Rat.num_nonneg (q := x)
  constructor
  · intro h1
    exact Rat.not_le.1 fun h2 => by have := h.2 h2; omega
  · intro h1
    have : ¬ 0 ≤ x.num := fun h2 => Rat.not_le.2 h1 (h.1 h2)
    omega
/-- The one form of a rational number. -/
theorem low_of (x : Rat) : Low (decide (x < 0)) x.num.natAbs x.den ∧ valQ (decide (x < 0)) x.num.natAbs x.den = x := by
  have hs : sg (decide (x < 0)) x.num.natAbs = x.num := by
    unfold sg
    by_cases h : x < 0
    · have : x.num < 0 := (num_below x).2 h
      simp only [h, decide_true, if_true]; omega
    · have : ¬ x.num < 0 := fun h2 => h ((num_below x).1 h2)
      simp only [h, decide_false, Bool.false_eq_true, if_false]; omega
  refine ⟨⟨x.den_pos, x.reduced, fun h => ?_⟩, ?_⟩
  · have := (num_below x).2 (of_decide_eq_true h)
    omega
  · unfold valQ
    rw [hs, ← Rat.mkRat_eq_div, Rat.mkRat_self]
/-- So one in the one form is that of its value. -/
theorem low_is {b : Bool} {n d : Nat} (h : Low b n d) : b = decide (valQ b n d < 0) ∧ n = (valQ b n d).num.natAbs ∧ d = (valQ b n d).den :=
  low_unique h (low_of _).1 (low_of _).2.symm
theorem valQ_lt {b c : Bool} {n d m e : Nat} (hd : 0 < d) (he : 0 < e) : valQ b n d < valQ c m e ↔ sg b n * (e : Int) < sg c m * (d : Int) := by
  unfold valQ
  rw [Rat.div_lt_iff (Rat.natCast_pos.2 hd), Rat.div_def, show ((sg c m : Int) : Rat) * ((e : Nat) : Rat)⁻¹ * ((d : Nat) : Rat) = ((sg c m : Int) : Rat) * ((d : Nat) : Rat) / ((e : Nat) : Rat) by rw [Rat.div_def]; grind, Rat.lt_div_iff (Rat.natCast_pos.2 he)]
  constructor
  · intro h; exact_mod_cast h
  · intro h; exact_mod_cast h
/-- -1, 0, 1. -/
def cmpQ (x y : Rat) : Int := if x < y then -1 else if y < x then 1 else 0
/-- Frac.Sign. -/
theorem sign_val {b : Bool} {n d : Nat} (h : Low b n d) : (if b then -1 else if n = 0 then (0 : Int) else 1) = cmpQ (valQ b n d) 0 := by
  have hz : (0 : Rat) = valQ false 0 1 := (valQ_zero false 1).symm
  have hd := h.pos
  have hb := h.sign
  unfold cmpQ
  rw [hz]
  simp only [valQ_lt h.pos (show 0 < 1 by omega), valQ_lt (show 0 < 1 by omega) h.pos, sg_zero]
  cases b
  · by_cases hn : n = 0
    · subst hn; simp [sg]
    · have : 0 < n := by omega
      simp [sg, hn, this]
  · have : 0 < n := by have := hb rfl; omega
    simp [sg, this]
end Cub

namespace Go.Proofs.YtimihoonnglniaaGreatDoor
open Go.RowKit

/-- Two numbers in their boxes, and the box of the result. -/
structure A3St (w W : World) (u v p : Value) : Prop where
  b1 : Box W w.heap.size u
  b2 : Box W (w.heap.size + 1) v
  b3 : Box W (w.heap.size + 1 + 1) p
  below : Below w.heap.size w W
theorem A3St.later {w W V : World} {u v p : Value} (s : A3St w W u v p) (hb : Below W.heap.size W V) : A3St w V u v p :=
  ⟨s.b1.later hb, s.b2.later hb, s.b3.later hb, s.below.trans (hb.mono s.below.size)⟩
theorem A3St.first (w : World) (u v p : Value) : A3St w (((w.alloc (.cells #[u] 43)).alloc (.cells #[v] 43)).alloc (.cells #[p] 43)) u v p :=
  ⟨⟨by simp [go_sem], by simp [go_sem]⟩, ⟨by simp [go_sem], by simp [go_sem]⟩, ⟨by simp [go_sem], by simp [go_sem]⟩,
    (((Below.refl _ _).alloc (Nat.le_refl _) _).alloc (by simp) _).alloc (by simp; omega) _⟩
theorem A3St.set3 {w W : World} {u v p : Value} (s : A3St w W u v p) (x : Value) : A3St w (W.setCell ⟨w.heap.size + 1 + 1, 0, none⟩ x) u v x :=
  ⟨s.b1.other (by omega) x, s.b2.other (by omega) x, s.b3.set x, s.below.setCell (by simp; omega) _⟩

set_option maxRecDepth 100000 in
set_option maxHeartbeats 2000000 in
theorem addSigned_any (b c : Bool) (x y : Value) (m n k : Nat) (w : World) (hx : IsBig w x m) (hy : IsBig w y n) (hk : k ≤ 1000000) (hm : m < 1000000000 ^ k) (hn : n < 1000000000 ^ k) :
    Calls Tryz.prog 68 #[.bool b, x, .bool c, y] w fun e w' => ∃ a l d, e = .returned (.tuple #[.bool (Cub.addSg b m c n).1, .agg #[.slice a l d]]) ∧ IsBig w' (.agg #[.slice a l d]) (Cub.addSg b m c n).2 ∧ Below w.heap.size w w' := by
  have HX := hide hx
  have HY := hide hy
  obtain ⟨ap, np, cp, rfl⟩ := hx.shape
  obtain ⟨aq, nq, cq, rfl⟩ := hy.shape
  have HADD := hide (fun W (h1 : IsBig W (.agg #[.slice ap np cp]) m) (h2 : IsBig W (.agg #[.slice aq nq cq]) n) => add_any _ _ m n k W h1 h2 hk hm hn)
  have HSUB1 := hide (fun W (h1 : IsBig W (.agg #[.slice ap np cp]) m) (h2 : IsBig W (.agg #[.slice aq nq cq]) n) (h : n ≤ m) => sub_any _ _ m n k W h1 h2 hk hm h)
  have HSUB2 := hide (fun W (h1 : IsBig W (.agg #[.slice ap np cp]) m) (h2 : IsBig W (.agg #[.slice aq nq cq]) n) (h : m ≤ n) => sub_any _ _ n m k W h2 h1 hk hn h)
  have HCMP := hide (fun W (h1 : IsBig W (.agg #[.slice ap np cp]) m) (h2 : IsBig W (.agg #[.slice aq nq cq]) n) => cmp_any _ _ m n W h1 h2)
  have HS0 := hide (A3St.first w (.slice ap np cp) (.slice aq nq cq) (.slice none 0 0))
  have HX0 := hide ((unhide HX).later (unhide HS0).below)
  have HY0 := hide ((unhide HY).later (unhide HS0).below)
  clear hx hy hk hm hn HX HY
  by_cases hbc : b = c
  · have HV : Hid (Cub.addSg b m c n = (b, m + n)) := if_pos hbc
    have e : (b == c) = true := by rw [hbc]; simp
    rw [unhide HV]
    clear HV
    subst hbc
    go_enter Tryz.func68, Tryz.ntmps68
    go_wp2_with (go_at_call 95; go_must (refine (unhide HADD _ (unhide HX0) (unhide HY0)).mono ?_; rintro e w1 ⟨v1, rfl, hv1, hb1⟩; obtain ⟨a1, l1, c1, rfl⟩ := hv1.shape; have HS1 := hide ((unhide HS0).later hb1); have HV1 := hide hv1; clear hv1 hb1; have b3 := (unhide HS1).b3.c; have f3 := (unhide HS1).b3.f))
    refine bodyPost_ret (v := .tuple #[.bool b, .agg #[.slice a1 l1 c1]]) (by simp [results, Tryz.results68, go_sem, b3]) rfl ⟨_, _, _, rfl, ?_, ?_⟩
    · exact (unhide HV1).box _ b3 (not_int _ _ _)
    · exact ((unhide HS1).set3 _).below
  · have hbn : (b == c) = false := by simpa using hbc
    by_cases hlt : m < n
    · have HV : Hid (Cub.addSg b m c n = (c, n - m)) := by show _ = _; unfold Cub.addSg; rw [if_neg hbc, if_pos hlt]
      rw [unhide HV]
      have hcm : Cub.cmpN m n = -1 := if_pos hlt
      rw [hcm] at HCMP
      have HLE : Hid (m ≤ n) := by show m ≤ n; omega
      clear HV hlt hbc hcm
      go_enter Tryz.func68, Tryz.ntmps68
      go_wp2_with (first
        | (go_at_call 81; go_must (refine (unhide HCMP _ (unhide HX0) (unhide HY0)).mono ?_; rintro e w0 ⟨rfl, hb0⟩; have HS' := hide ((unhide HS0).later hb0); have HX' := hide ((unhide HX0).later hb0); have HY' := hide ((unhide HY0).later hb0); clear hb0; have b1 := (unhide HS').b1.c; have b2 := (unhide HS').b2.c))
        | (go_at_call 96; go_must (refine (unhide HSUB2 w0 (unhide HX') (unhide HY') (unhide HLE)).mono ?_; rintro e w1 ⟨v1, rfl, hv1, hb1⟩; obtain ⟨a1, l1, c1, rfl⟩ := hv1.shape; have HS1 := hide ((unhide HS').later hb1); have HV1 := hide hv1; clear hv1 hb1; have b3 := (unhide HS1).b3.c; have f3 := (unhide HS1).b3.f)))
      refine bodyPost_ret (v := .tuple #[.bool c, .agg #[.slice a1 l1 c1]]) (by simp [results, Tryz.results68, go_sem, b3]) rfl ⟨_, _, _, rfl, ?_, ?_⟩
      · exact (unhide HV1).box _ b3 (not_int _ _ _)
      · exact ((unhide HS1).set3 _).below
    · have HV : Hid (Cub.addSg b m c n = (b, m - n)) := by show _ = _; unfold Cub.addSg; rw [if_neg hbc, if_neg hlt]
      rw [unhide HV]
      have HLE : Hid (n ≤ m) := by show n ≤ m; omega
      obtain ⟨z, hz⟩ : ∃ z, z = Cub.cmpN m n := ⟨_, rfl⟩
      have hz0 : ¬ z < 0 := by rw [hz]; unfold Cub.cmpN; rw [if_neg hlt]; split <;> omega
      rw [← hz] at HCMP
      clear HV hlt hbc hz
      go_enter Tryz.func68, Tryz.ntmps68
      go_wp2_with (first
        | (go_at_call 81; go_must (refine (unhide HCMP _ (unhide HX0) (unhide HY0)).mono ?_; rintro e w0 ⟨rfl, hb0⟩; have HS' := hide ((unhide HS0).later hb0); have HX' := hide ((unhide HX0).later hb0); have HY' := hide ((unhide HY0).later hb0); clear hb0; have b1 := (unhide HS').b1.c; have b2 := (unhide HS').b2.c))
        | (go_at_call 96; go_must (refine (unhide HSUB1 w0 (unhide HX') (unhide HY') (unhide HLE)).mono ?_; rintro e w1 ⟨v1, rfl, hv1, hb1⟩; obtain ⟨a1, l1, c1, rfl⟩ := hv1.shape; have HS1 := hide ((unhide HS').later hb1); have HV1 := hide hv1; clear hv1 hb1; have b3 := (unhide HS1).b3.c; have f3 := (unhide HS1).b3.f)))
      refine bodyPost_ret (v := .tuple #[.bool b, .agg #[.slice a1 l1 c1]]) (by simp [results, Tryz.results68, go_sem, b3]) rfl ⟨_, _, _, rfl, ?_, ?_⟩
      · exact (unhide HV1).box _ b3 (not_int _ _ _)
      · exact ((unhide HS1).set3 _).below
end Go.Proofs.YtimihoonnglniaaGreatDoor

namespace Go.Proofs.YtimihoonnglniaaGreatDoor
open Go.RowKit

/-- A Frac holds a sign and two numbers (its cells lie flat). -/
def IsFrac (w : World) (v : Value) (b : Bool) (n d : Nat) : Prop := ∃ s t, v = .agg #[.bool b, s, t] ∧ IsBig w (.agg #[s]) n ∧ IsBig w (.agg #[t]) d
theorem IsFrac.later {w w' : World} {v : Value} {b : Bool} {n d : Nat} (h : IsFrac w v b n d) (hb : Below w.heap.size w w') : IsFrac w' v b n d := by
  obtain ⟨s, t, rfl, h1, h2⟩ := h
  exact ⟨s, t, rfl, h1.later hb, h2.later hb⟩
theorem IsFrac.form {w : World} {v : Value} {b : Bool} {n d : Nat} (h : IsFrac w v b n d) : ∃ a1 l1 c1 a2 l2 c2, v = .agg #[.bool b, .slice a1 l1 c1, .slice a2 l2 c2] ∧ IsBig w (.agg #[.slice a1 l1 c1]) n ∧ IsBig w (.agg #[.slice a2 l2 c2]) d := by
  obtain ⟨s, t, rfl, h1, h2⟩ := h
  obtain ⟨a1, l1, c1, e1⟩ := h1.shape
  obtain ⟨a2, l2, c2, e2⟩ := h2.shape
  simp only [Value.agg.injEq, Array.mk.injEq, List.cons.injEq, and_true] at e1 e2
  subst e1 e2
  exact ⟨a1, l1, c1, a2, l2, c2, rfl, h1, h2⟩
theorem inv_any (v : Value) (b : Bool) (n d : Nat) (w : World) (h : IsFrac w v b n d) :
    Calls Tryz.prog 75 #[v] w fun e w' => ∃ v', e = .returned v' ∧ IsFrac w' v' b d n ∧ Below w.heap.size w w' := by
  obtain ⟨a1, l1, c1, a2, l2, c2, rfl, h1, h2⟩ := h.form
  have H1 := hide h1
  have H2 := hide h2
  clear h h1 h2
  go_enter Tryz.func75, Tryz.ntmps75
  go_wp2
  have hb : Below w.heap.size w ((w.alloc (.cells #[.bool b, .slice a1 l1 c1, .slice a2 l2 c2] 45)).alloc (.cells #[.bool b, .slice a2 l2 c2, .slice a1 l1 c1] 45)) := ((Below.refl _ _).alloc (Nat.le_refl _) _).alloc (by simp) _
  exact bodyPost_ret (v := .agg #[.bool b, .slice a2 l2 c2, .slice a1 l1 c1]) (by simp [results, Tryz.results75, go_sem]) rfl ⟨_, rfl, ⟨_, _, rfl, (unhide H2).later hb, (unhide H1).later hb⟩, hb⟩
/-- Frac.Sign, as an answer. -/
def signI (b : Bool) (n : Nat) : Int := if b then -1 else if n = 0 then 0 else 1
theorem sign_any (v : Value) (b : Bool) (n d : Nat) (w : World) (h : IsFrac w v b n d) :
    Calls Tryz.prog 22 #[v] w fun e w' => e = .returned (.int .i64 (signI b n)) ∧ Below w.heap.size w w' := by
  obtain ⟨a1, l1, c1, a2, l2, c2, rfl, h1, h2⟩ := h.form
  have hb : Below w.heap.size w (w.alloc (.cells #[.bool b, .slice a1 l1 c1, .slice a2 l2 c2] 45)) := (Below.refl _ _).alloc (Nat.le_refl _) _
  have H37 := hide (isZero_any _ n _ (h1.later hb))
  have HB := hide hb
  clear h h1 h2 hb
  cases b with
  | true =>
    go_enter Tryz.func22, Tryz.ntmps22
    go_wp2
    go_ret
    exact ⟨rfl, unhide HB⟩
  | false =>
    by_cases hn : n = 0
    · subst hn
      go_enter Tryz.func22, Tryz.ntmps22
      go_wp2_with (go_at_call 44; go_must (refine (unhide H37).mono ?_; rintro e w1 ⟨rfl, hb1⟩; have HB1 := hide ((unhide HB).trans (hb1.mono (unhide HB).size)); clear hb1))
      go_ret
      exact ⟨rfl, unhide HB1⟩
    · have e : (n == 0) = false := by rw [beq_eq_false_iff_ne]; exact hn
      have HE : Hid (signI false n = 1) := by show _ = _; simp [signI, hn]
      rw [e] at H37
      rw [unhide HE]
      clear e hn HE
      go_enter Tryz.func22, Tryz.ntmps22
      go_wp2_with (go_at_call 44; go_must (refine (unhide H37).mono ?_; rintro e w1 ⟨rfl, hb1⟩; have HB1 := hide ((unhide HB).trans (hb1.mono (unhide HB).size)); clear hb1))
      go_ret
      exact ⟨rfl, unhide HB1⟩
end Go.Proofs.YtimihoonnglniaaGreatDoor

namespace Go.Proofs.YtimihoonnglniaaGreatDoor
open Go.RowKit

set_option maxRecDepth 100000 in
set_option maxHeartbeats 2000000 in
theorem neg_any (v : Value) (b : Bool) (n d : Nat) (w : World) (h : IsFrac w v b n d) :
    Calls Tryz.prog 72 #[v] w fun e w' => ∃ v', e = .returned v' ∧ IsFrac w' v' (!b && decide (n ≠ 0)) n d ∧ Below w.heap.size w w' := by
  obtain ⟨a1, l1, c1, a2, l2, c2, rfl, h1, h2⟩ := h.form
  have H1 := hide h1
  have H2 := hide h2
  clear h h1 h2
  have HB : Hid (Below w.heap.size w ((w.alloc (.cells #[.bool b, .slice a1 l1 c1, .slice a2 l2 c2] 45)).alloc (.cells #[.bool false, .slice none 0 0, .slice none 0 0] 45))) := ((Below.refl _ _).alloc (Nat.le_refl _) _).alloc (by simp) _
  have H37 := hide (fun W (hb : Below w.heap.size w W) => isZero_any _ n W ((unhide H1).later hb))
  go_enter Tryz.func72, Tryz.ntmps72
  go_upto_region 1 with fail
  obtain ⟨V, hV⟩ : ∃ V, V = ((w.alloc (.cells #[.bool b, .slice a1 l1 c1, .slice a2 l2 c2] 45)).alloc (.cells #[.bool false, .slice none 0 0, .slice none 0 0] 45)) := ⟨_, rfl⟩
  have p0 : V.cell? ⟨w.heap.size, 0, none⟩ = some (.bool b) := by rw [hV]; simp [go_sem]
  have p1 : V.cell? ⟨w.heap.size, 1, none⟩ = some (.slice a1 l1 c1) := by rw [hV]; simp [go_sem]
  have p2 : V.cell? ⟨w.heap.size, 2, none⟩ = some (.slice a2 l2 c2) := by rw [hV]; simp [go_sem]
  have q0 : V.cell? ⟨w.heap.size + 1, 0, none⟩ = some (.bool false) := by rw [hV]; simp [go_sem]
  have q1 : V.cell? ⟨w.heap.size + 1, 1, none⟩ = some (.slice none 0 0) := by rw [hV]; simp [go_sem]
  have q2 : V.cell? ⟨w.heap.size + 1, 2, none⟩ = some (.slice none 0 0) := by rw [hV]; simp [go_sem]
  have g0 : V.frozen? ⟨w.heap.size + 1, 0, none⟩ = false := by rw [hV]; simp [go_sem]
  have g1 : V.frozen? ⟨w.heap.size + 1, 1, none⟩ = false := by rw [hV]; simp [go_sem]
  have g2 : V.frozen? ⟨w.heap.size + 1, 2, none⟩ = false := by rw [hV]; simp [go_sem]
  rw [← hV] at HB ⊢
  clear hV
  cases b with
  | true =>
    go_region
    obtain ⟨U, hU⟩ : ∃ U, U = (((V.setCell ⟨w.heap.size + 1, 0, none⟩ (.bool false)).setCell ⟨w.heap.size + 1, 1, none⟩ (.slice a1 l1 c1)).setCell ⟨w.heap.size + 1, 2, none⟩ (.slice a2 l2 c2)).drew := ⟨_, rfl⟩
    have hbU : Below w.heap.size w U := by
      rw [hU]
      have h3 := (((unhide HB).setCell (p := ⟨w.heap.size + 1, 0, none⟩) (by simp) (.bool false)).setCell (p := ⟨w.heap.size + 1, 1, none⟩) (by simp) (.slice a1 l1 c1)).setCell (p := ⟨w.heap.size + 1, 2, none⟩) (by simp) (.slice a2 l2 c2)
      exact h3.trans (((Below.refl _ _).drew).mono h3.size)
    have r0 : U.cell? ⟨w.heap.size + 1, 0, none⟩ = some (.bool false) := by rw [hU]; simp [go_sem, *]
    have r1 : U.cell? ⟨w.heap.size + 1, 1, none⟩ = some (.slice a1 l1 c1) := by rw [hU]; simp [go_sem, *]
    have r2 : U.cell? ⟨w.heap.size + 1, 2, none⟩ = some (.slice a2 l2 c2) := by rw [hU]; simp [go_sem, *]
    have HU := hide hbU
    rw [← hU]
    clear hU hbU q0 q1 q2 g0 g1 g2 p0 p1 p2
    go_wp2_with fail
    exact bodyPost_ret (v := .agg #[.bool false, .slice a1 l1 c1, .slice a2 l2 c2]) (by simp [results, Tryz.results72, go_sem, r0, r1, r2]) rfl ⟨_, rfl, ⟨_, _, rfl, (unhide H1).later (unhide HU), (unhide H2).later (unhide HU)⟩, unhide HU⟩
  | false =>
    have hsV := (unhide HB).size
    have hlt : w.heap.size + 1 < V.heap.size := World.block_lt_of_cell? _ _ q0
    have HF : Hid (∀ W, Below V.heap.size V W → W.cell? ⟨w.heap.size, 0, none⟩ = some (.bool false) ∧ W.cell? ⟨w.heap.size, 1, none⟩ = some (.slice a1 l1 c1) ∧ W.cell? ⟨w.heap.size, 2, none⟩ = some (.slice a2 l2 c2) ∧ W.cell? ⟨w.heap.size + 1, 0, none⟩ = some (.bool false) ∧ W.cell? ⟨w.heap.size + 1, 1, none⟩ = some (.slice none 0 0) ∧ W.cell? ⟨w.heap.size + 1, 2, none⟩ = some (.slice none 0 0) ∧ W.frozen? ⟨w.heap.size + 1, 0, none⟩ = false ∧ W.frozen? ⟨w.heap.size + 1, 1, none⟩ = false ∧ W.frozen? ⟨w.heap.size + 1, 2, none⟩ = false) := fun W hb =>
      ⟨(hb.cell (p := ⟨w.heap.size, 0, none⟩) (show w.heap.size < V.heap.size by omega)).trans p0, (hb.cell (p := ⟨w.heap.size, 1, none⟩) (show w.heap.size < V.heap.size by omega)).trans p1, (hb.cell (p := ⟨w.heap.size, 2, none⟩) (show w.heap.size < V.heap.size by omega)).trans p2,
        (hb.cell (p := ⟨w.heap.size + 1, 0, none⟩) hlt).trans q0, (hb.cell (p := ⟨w.heap.size + 1, 1, none⟩) hlt).trans q1, (hb.cell (p := ⟨w.heap.size + 1, 2, none⟩) hlt).trans q2,
        (hb.frozen (p := ⟨w.heap.size + 1, 0, none⟩) hlt).trans g0, (hb.frozen (p := ⟨w.heap.size + 1, 1, none⟩) hlt).trans g1, (hb.frozen (p := ⟨w.heap.size + 1, 2, none⟩) hlt).trans g2⟩
    clear q0 q1 q2 g0 g1 g2 hlt
    go_region_held3 (fun w' => w'.cell? ⟨w.heap.size, 0, none⟩ = some (.bool false) ∧ w'.cell? ⟨w.heap.size, 1, none⟩ = some (.slice a1 l1 c1) ∧ w'.cell? ⟨w.heap.size, 2, none⟩ = some (.slice a2 l2 c2)) (first | assumption | (refine ⟨?_, ?_, ?_⟩ <;> first | assumption | (simp [go_sem, *]; done)) | (simp [go_sem, *]; done)) ((go_at_call 44; go_must (refine (unhide H37 _ ((unhide HB).trans (((Below.refl _ _).drew).mono hsV))).mono ?_; rintro e w3 ⟨rfl, hb3⟩; have HB3 := hide ((((Below.refl V.heap.size V).drew)).trans hb3); obtain ⟨t0, t1, t2, q0, q1, q2, g0, g1, g2⟩ := unhide HF w3 (unhide HB3); clear hb3)))
    have HB4 := hide ((unhide HB).trans ((unhide HB3).mono hsV))
    obtain ⟨U, hU⟩ : ∃ U, U = (((w3.setCell ⟨w.heap.size + 1, 0, none⟩ (.bool (!n == 0))).setCell ⟨w.heap.size + 1, 1, none⟩ (.slice a1 l1 c1)).setCell ⟨w.heap.size + 1, 2, none⟩ (.slice a2 l2 c2)) := ⟨_, rfl⟩
    have hbU : Below w.heap.size w U := by
      rw [hU]
      exact (((unhide HB4).setCell (p := ⟨w.heap.size + 1, 0, none⟩) (by simp) (.bool (!n == 0))).setCell (p := ⟨w.heap.size + 1, 1, none⟩) (by simp) (.slice a1 l1 c1)).setCell (p := ⟨w.heap.size + 1, 2, none⟩) (by simp) (.slice a2 l2 c2)
    have r0 : U.cell? ⟨w.heap.size + 1, 0, none⟩ = some (.bool (!n == 0)) := by rw [hU]; simp [go_sem, *]
    have r1 : U.cell? ⟨w.heap.size + 1, 1, none⟩ = some (.slice a1 l1 c1) := by rw [hU]; simp [go_sem, *]
    have r2 : U.cell? ⟨w.heap.size + 1, 2, none⟩ = some (.slice a2 l2 c2) := by rw [hU]; simp [go_sem, *]
    have HU := hide hbU
    have HE : Hid ((!n == 0) = (!false && decide (n ≠ 0))) := by show _ = _; by_cases h0 : n = 0 <;> simp [h0]
    rw [← hU]
    clear hU hbU q0 q1 q2 g0 g1 g2 p0 p1 p2 t0 t1 t2
    go_wp2_with fail
    exact bodyPost_ret (v := .agg #[.bool (!n == 0), .slice a1 l1 c1, .slice a2 l2 c2]) (by simp [results, Tryz.results72, go_sem, r0, r1, r2]) rfl ⟨_, rfl, (by rw [← unhide HE]; exact ⟨_, _, rfl, (unhide H1).later (unhide HU), (unhide H2).later (unhide HU)⟩), unhide HU⟩
end Go.Proofs.YtimihoonnglniaaGreatDoor
