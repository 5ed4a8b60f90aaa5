/- FloNearest: the law, over all numbers. -/
import Derived.Test.YtijifpbpjinmhaaGreatDoorN2
import Derived.Test.YtijifpbpjinmhaaGreatDoorV1
import Derived.Test.YtijifpbpjinmhaaGreatDoorX4
set_option maxHeartbeats 8000000
set_option maxRecDepth 100000
namespace Go.Proofs.YtijifpbpjinmhaaGreatDoor
open Go.RowKit
/-- A float's word with its sign. -/
def sgw (b : Bool) (u : Nat) : Nat := if b then u + 9223372036854775808 else u
theorem near_all2 (num den : ByteArray) (b : Bool) (n d : Nat) (h : RT num den b n d) :
    ∃ (f : Nat) (er : Int), ToAns b n d f er ∧ ((er = 0 ∧ ∃ u, NearU n d u ∧ f = sgw b u) ∨ er = 31) := by
  have hn := h.hn
  have hd := h.hd
  have hd0 : 0 < d := h.low.pos
  obtain ⟨T, hT⟩ : ∃ T, T = 970 := ⟨_, rfl⟩
  have hP : P970 = 2 ^ T := by rw [hT]; exact P970_is.symm
  rcases cmp_end n d P970 T hP with ⟨hc, hlt⟩ | ⟨hc, hlt⟩
  · rcases Nat.eq_zero_or_pos n with h0 | h0
    · subst h0
      have hb : b = false := by
        cases hb : b
        · rfl
        · exact absurd rfl (h.low.sign hb)
      subst hb
      refine ⟨0, 0, ?_, Or.inl ⟨rfl, 0, ?_, rfl⟩⟩
      · intro a1 l1 c1 a2 l2 c2 W h1 h2 h3
        exact nearestTo_fin a1 l1 c1 a2 l2 c2 false 0 d 0 W h1 h2 hn hd h3 hc (fun V g1 g2 g3 => nearest_zero a1 l1 c1 a2 l2 c2 d V g1 g2 g3 hd0 hd) (by decide)
      · have hb := scB_pos d (-1074) hd0
        refine ⟨-1074, 0, 0, by decide, by decide, by decide, Or.inl rfl, by rw [scA_zero, Nat.zero_mul], hb, fun h => by omega, ?_⟩
        have e0 : wd (-1074) 0 = 0 := by unfold wd; decide
        have e : rndB 0 0 (scB d (-1074)) = 0 := by unfold rndB; rw [if_neg (by omega)]
        rw [e, e0]
    · obtain ⟨x, hz⟩ := sz_600 n d hn hd0
      have hm : scA n x = quo n d x * scB d x + scA n x % scB d x := by unfold quo; rw [Nat.mul_comm]; exact (Nat.div_add_mod _ _).symm
      have hf := fin_facts n d T x _ _ hT hd0 hz hm hlt
      have h53 := (quo53 n d x hd0).2 hz.hi
      have hN : NearU n d (wd x (rndB (quo n d x) (scA n x % scB d x) (scB d x))) := ⟨x, quo n d x, scA n x % scB d x, hz.l1, hf.1, h53, sz_lo n d x hd0 hz, hm, Nat.mod_lt _ (scB_pos d x hd0), hf.2, rfl⟩
      have hw := hN.lt
      refine ⟨_, 0, fun a1 l1 c1 a2 l2 c2 W h1 h2 h3 => nearestTo_fin a1 l1 c1 a2 l2 c2 b n d _ W h1 h2 hn hd h3 hc (fun V g1 g2 g3 => nearest_pos a1 l1 c1 a2 l2 c2 n d T x V g1 g2 g3 h0 hd0 hn hd hz hT hlt) (by omega), Or.inl ⟨rfl, _, hN, rfl⟩⟩
  · exact ⟨0, 31, fun a1 l1 c1 a2 l2 c2 W h1 h2 h3 => nearestTo_inf a1 l1 c1 a2 l2 c2 b n d _ W h1 h2 hn hd h3 rfl hc, Or.inr rfl⟩
theorem rk_sgw (b : Bool) (u : Nat) (hu : u < 9218868437227405312) : rk (sgw b u) = if b then 9223372036854775807 - u else u + 9223372036854775808 := by
  have hn : nanB (sgw b u) = false := by unfold nanB sgw; cases b <;> exact decide_eq_false (by simp; omega)
  unfold rk
  rw [hn, if_neg (show ¬ (false = true) by decide)]
  unfold sgw
  cases b
  · simp; omega
  · simp; omega
theorem ord_ok (b c : Bool) (n d u m e v : Nat) (h : NearU n d u) (g : NearU m e v) (hd : 0 < d) (he : 0 < e) (ha : abv b n d c m e = true) : ¬ Cub.cmpN (rk (sgw b u)) (rk (sgw c v)) < 0 := by
  have hu := h.lt
  have hv := g.lt
  rw [rk_sgw b u hu, rk_sgw c v hv]
  unfold abv at ha
  unfold Cub.cmpN at *
  cases b <;> cases c
  · simp at ha
    have hle : m * d ≤ n * e := by
      revert ha; split
      · intro h; omega
      · split <;> intro _ <;> omega
    have := h.mono g he hle
    simp
    split <;> (try split) <;> omega
  · simp
    split <;> (try split) <;> omega
  · simp at ha
  · simp at ha
    have hle : n * e ≤ m * d := by
      revert ha; split
      · intro h; omega
      · split <;> intro _ <;> omega
    have := g.mono h hd hle
    simp
    split <;> (try split) <;> omega
theorem cmpN_swap (a b : Nat) : Cub.cmpN b a = -Cub.cmpN a b := by unfold Cub.cmpN; split <;> (try split) <;> (try split) <;> omega
theorem nextS_up (b : Bool) (u : Nat) (hu : u < 9218868437227405312) (h0 : 0 < u) : nextF (sgw b u) true = sgw b (if b then u - 1 else u + 1) := by
  have hn : nanB (sgw b u) = false := by unfold nanB sgw; cases b <;> exact decide_eq_false (by simp; omega)
  have hc : (false || (true && decide (sgw b u = 9218868437227405312)) || (!true && decide (sgw b u = 18442240474082181120))) = false := by
    have : sgw b u ≠ 9218868437227405312 := by unfold sgw; cases b <;> simp <;> omega
    simp [this]
  have hr := rk_sgw b u hu
  unfold nextF
  rw [hn, hc, if_neg (show ¬ (false = true) by decide), if_pos rfl, hr]
  unfold orF sgw
  cases b
  · simp only [Bool.false_eq_true, if_false]
    rw [if_neg (by omega)]; omega
  · simp only [if_true]
    rw [if_pos (by omega)]; omega
theorem nextS_dn (b : Bool) (u : Nat) (hu : u < 9218868437227405312) (h0 : 0 < u) : nextF (sgw b u) false = sgw b (if b then u + 1 else u - 1) := by
  have hn : nanB (sgw b u) = false := by unfold nanB sgw; cases b <;> exact decide_eq_false (by simp; omega)
  have hc : (false || (false && decide (sgw b u = 9218868437227405312)) || (!false && decide (sgw b u = 18442240474082181120))) = false := by
    have : sgw b u ≠ 18442240474082181120 := by unfold sgw; cases b <;> simp <;> omega
    simp [this]
  have hr := rk_sgw b u hu
  unfold nextF
  rw [hn, hc, if_neg (show ¬ (false = true) by decide), if_neg (show ¬ (false = true) by decide), hr]
  unfold orF sgw
  cases b
  · simp only [Bool.false_eq_true, if_false]
    rw [if_neg (by omega)]; omega
  · simp only [if_true]
    rw [if_pos (by omega)]; omega
theorem nextF_lt (f : Nat) (up : Bool) (hf : f < 18446744073709551616) : nextF f up < 18446744073709551616 := by
  unfold nextF orF
  split
  · exact hf
  · split <;> split <;> omega
/-- A float's number in its lowest terms, against its size. -/
theorem qB_low (v : Nat) : (qB v).num.natAbs * deF v = nuF v * (qB v).den ∧ decide (qB v < 0) = (negB v && decide (nuF v ≠ 0)) := by
  have hl := Cub.low_of (qB v)
  have hE : 0 < 2 ^ eN v := Nat.two_pow_pos _
  have h1 := hl.2
  have h2 : Cub.valQ (decide (qB v < 0)) (qB v).num.natAbs (qB v).den = Cub.valQ (negB v) (mvB v * 2 ^ eP v) (2 ^ eN v) := h1
  rw [Cub.valQ_eq (qB v).den_pos hE] at h2
  have hnu : nuF v = mvB v * 2 ^ eP v := rfl
  have hde : deF v = 2 ^ eN v := by unfold deF; rw [Nat.one_mul]; rfl
  rw [← hnu, ← hde] at h2
  have hd0 := (qB v).den_pos
  have hD0 := deF_pos v
  have hs := hl.1.sign
  generalize (qB v).num.natAbs = a at *
  generalize (qB v).den = k at *
  generalize decide (qB v < 0) = c at *
  generalize nuF v = M at *
  generalize deF v = E at *
  clear h1 hl
  have hcast : ((a * E : Nat) : Int) = (a : Int) * (E : Int) := Int.natCast_mul _ _
  have hcast2 : ((M * k : Nat) : Int) = (M : Int) * (k : Int) := Int.natCast_mul _ _
  have hz : a * E = 0 → a = 0 := fun h => by rcases Nat.mul_eq_zero.1 h with h | h <;> omega
  have hz2 : M * k = 0 → M = 0 := fun h => by rcases Nat.mul_eq_zero.1 h with h | h <;> omega
  unfold Cub.sg at h2
  generalize negB v = t at *
  cases c <;> cases t <;> simp at hs
  · simp only [Bool.false_eq_true, if_false] at h2
    rw [← hcast, ← hcast2] at h2
    exact ⟨by omega, rfl⟩
  · simp only [Bool.false_eq_true, if_false, if_true] at h2
    rw [← hcast, Int.neg_mul, ← hcast2] at h2
    have h3 : a * E = 0 ∧ M * k = 0 := by omega
    have h4 := hz2 h3.2
    exact ⟨by omega, by simp [h4]⟩
  · simp only [Bool.false_eq_true, if_false, if_true] at h2
    rw [Int.neg_mul, ← hcast, ← hcast2] at h2
    have : a * E = 0 := by omega
    exact absurd (hz this) hs
  · simp only [if_true] at h2
    rw [Int.neg_mul, Int.neg_mul, ← hcast, ← hcast2] at h2
    refine ⟨by omega, ?_⟩
    have hM : M ≠ 0 := by
      intro hM
      rw [hM, Nat.zero_mul] at h2
      exact hs (hz (by omega))
    simp [hM]
theorem cmp_q (n d T v : Nat) (hT : T = 1074) (hv : v < 9218868437227405312) (w : Nat) (hw : nuF w = nuF v ∧ deF w = deF v) : Cub.cmpN (n * (qB w).den) ((qB w).num.natAbs * d) = Cub.cmpN (n * 2 ^ T) (zF T v * d) := by
  rw [← cmp_z n d T v hT hv, ← hw.1, ← hw.2]
  have h1 := (qB_low w).1
  rw [← cmpN_mul (n * (qB w).den) _ (deF w) (deF_pos w), ← cmpN_mul (n * deF w) _ (qB w).den (qB w).den_pos]
  have e1 : n * (qB w).den * deF w = n * deF w * (qB w).den := Nat.mul_right_comm _ _ _
  have e2 : (qB w).num.natAbs * d * deF w = nuF w * d * (qB w).den := by rw [Nat.mul_right_comm, h1, Nat.mul_right_comm]
  rw [e1, e2]
theorem sgw_parts (b : Bool) (u : Nat) : nuF (sgw b u) = nuF u ∧ deF (sgw b u) = deF u := by
  have e1 : xpB (sgw b u) = xpB u := by unfold xpB sgw; cases b <;> simp; omega
  have e2 : mtB (sgw b u) = mtB u := by unfold mtB sgw; cases b <;> simp; omega
  unfold nuF deF mvB evB
  rw [e1, e2]
  exact ⟨rfl, rfl⟩
theorem neg_sgw (b : Bool) (u : Nat) (hu : u < 9218868437227405312) : negB (sgw b u) = (b && decide (0 < u)) := by
  unfold negB sgw
  cases b
  · simp; omega
  · simp
/-- The number is not above the next float, nor below the one ahead. -/
theorem up_ok (b : Bool) (n d u : Nat) (h : NearU n d u) (v : Nat) (hv : v = if b then u - 1 else u + 1) (hvl : v < 9218868437227405312) : abv b n d (decide (qB (sgw b v) < 0)) (qB (sgw b v)).num.natAbs (qB (sgw b v)).den = false := by
  obtain ⟨T, hT⟩ : ∃ T, T = 1074 := ⟨_, rfl⟩
  have hc := cmp_q n d T v hT hvl (sgw b v) (sgw_parts b v)
  have hq := (qB_low (sgw b v)).2
  rw [neg_sgw b v hvl] at hq
  unfold abv
  rw [hc, hq]
  cases b
  · have hv2 : v = u + 1 := by simpa using hv
    subst hv2
    have hlt := h.up hT hvl
    have hm : Cub.cmpN (n * 2 ^ T) (zF T (u + 1) * d) = -1 := by unfold Cub.cmpN; rw [if_pos hlt]
    rw [hm]; simp
  · have hv2 : v = u - 1 := by simpa using hv
    subst hv2
    have hle := h.down hT
    have hm : ¬ Cub.cmpN (n * 2 ^ T) (zF T (u - 1) * d) < 0 := by unfold Cub.cmpN; rw [if_neg (by omega)]; split <;> decide
    generalize Cub.cmpN (n * 2 ^ T) (zF T (u - 1) * d) = k at *
    have hk : decide (k < 0) = false := decide_eq_false hm
    rw [hk]
    generalize (true && decide (0 < u - 1) && decide (nuF (sgw true (u - 1)) ≠ 0)) = c
    cases c <;> simp
theorem dn_ok (b : Bool) (n d u : Nat) (h : NearU n d u) (v : Nat) (hv : v = if b then u + 1 else u - 1) (hvl : v < 9218868437227405312) : abv (decide (qB (sgw b v) < 0)) (qB (sgw b v)).num.natAbs (qB (sgw b v)).den b n d = false := by
  obtain ⟨T, hT⟩ : ∃ T, T = 1074 := ⟨_, rfl⟩
  have hc := cmp_q n d T v hT hvl (sgw b v) (sgw_parts b v)
  have hq := (qB_low (sgw b v)).2
  rw [neg_sgw b v hvl] at hq
  unfold abv
  rw [cmpN_swap (n * (qB (sgw b v)).den), hc, hq]
  cases b
  · have hv2 : v = u - 1 := by simpa using hv
    subst hv2
    have hle := h.down hT
    have hm : ¬ Cub.cmpN (n * 2 ^ T) (zF T (u - 1) * d) < 0 := by unfold Cub.cmpN; rw [if_neg (by omega)]; split <;> decide
    generalize Cub.cmpN (n * 2 ^ T) (zF T (u - 1) * d) = k at *
    have hk : decide (0 < -k) = false := decide_eq_false (by omega)
    rw [hk]; simp
  · have hv2 : v = u + 1 := by simpa using hv
    subst hv2
    have hlt := h.up hT hvl
    have hm : Cub.cmpN (n * 2 ^ T) (zF T (u + 1) * d) = -1 := by unfold Cub.cmpN; rw [if_pos hlt]
    have hnz : nuF (sgw true (u + 1)) ≠ 0 := by
      rw [(sgw_parts true (u + 1)).1]
      intro h3
      have hz : zF T (u + 1) = 0 := by
        unfold nuF at h3
        rcases Nat.mul_eq_zero.1 h3 with h4 | h4
        · unfold zF; rw [h4, Nat.zero_mul]
        · have := Nat.two_pow_pos (evB (u + 1)).toNat
          unfold pU at h4; omega
      rw [hz, Nat.zero_mul] at hlt
      exact Nat.not_lt_zero _ hlt
    have hc2 : (true && decide (0 < u + 1) && decide (nuF (sgw true (u + 1)) ≠ 0)) = true := by simp [hnz]
    rw [hm, hc2]; simp
/-- The two numbers' boxes. -/
structure NS (w W : World) (n1 d1 n2 d2 : ByteArray) : Prop where
  x : T2 W w.heap.size (.string n1) (.string d1)
  y : T2 W (w.heap.size + 1) (.string n2) (.string d2)
  b : Below w.heap.size w W
theorem NS.later {w W V : World} {n1 d1 n2 d2 : ByteArray} (h : NS w W n1 d1 n2 d2) (hb : Below W.heap.size W V) : NS w V n1 d1 n2 d2 := ⟨h.x.later hb, h.y.later hb, h.b.trans (hb.mono h.b.size)⟩
theorem NS.begin (w : World) (n1 d1 n2 d2 : ByteArray) : NS w ((w.alloc (.cells #[.string n1, .string d1] 23)).alloc (.cells #[.string n2, .string d2] 23)) n1 d1 n2 d2 :=
  ⟨⟨by simp [go_sem], by simp [go_sem], by simp [go_sem], by simp [go_sem]⟩, ⟨by simp [go_sem], by simp [go_sem], by simp [go_sem], by simp [go_sem]⟩, ((Below.refl _ _).alloc (Nat.le_refl _) _).alloc (by simp) _⟩
theorem nearest_bad (n1 d1 n2 d2 : ByteArray) (f g : Nat) (e h : Int) (w : World) (htab : Tab w)
    (HF : ∀ W : World, Tab W → Calls Tryz.prog 10 #[.agg #[.string n1, .string d1]] W fun r w' => r = .returned (.tuple #[.float .f64 f, .int .i64 e]) ∧ Below W.heap.size W w')
    (HG : ∀ W : World, Tab W → Calls Tryz.prog 10 #[.agg #[.string n2, .string d2]] W fun r w' => r = .returned (.tuple #[.float .f64 g, .int .i64 h]) ∧ Below W.heap.size W w')
    (hbad : (e = 0 ∧ (h = 3 ∨ h = 31)) ∨ e = 3 ∨ e = 31) :
    Calls Tryz.prog 8 #[.agg #[.string n1, .string d1], .agg #[.string n2, .string d2]] w fun r w' => r = .returned (.bool true) ∧ Below w.heap.size w w' := by
  obtain ⟨V, hV⟩ : ∃ V, V = (w.alloc (.cells #[.string n1, .string d1] 23)).alloc (.cells #[.string n2, .string d2] 23) := ⟨_, rfl⟩
  have HS : Hid (NS w V n1 d1 n2 d2) := by rw [hV]; exact NS.begin w n1 d1 n2 d2
  have G1 := hide HF; have G2 := hide HG
  have HTW := hide htab
  have HK := hide (fun W (h : Tab W) => known_ok W h)
  have HV := hide hV
  clear hV htab HF HG
  go_enter Tryz.func8, Tryz.ntmps8
  go_upto_region 1 with fail
  rw [← unhide HV]
  clear HV
  have c0 := (unhide HS).x.c0; have c1 := (unhide HS).x.c1
  go_upto_region 2 with (go_at_call 10; refine (unhide G1 _ ((unhide HTW).later (unhide HS).b)).mono ?_; rintro e' w1 ⟨rfl, hb⟩; have HS1 := hide ((unhide HS).later hb); clear hb HS c0 c1)
  have y0 := (unhide HS1).y.c0; have y1 := (unhide HS1).y.c1
  go_upto_region 3 with (go_at_call 10; refine (unhide G2 _ ((unhide HTW).later (unhide HS1).b)).mono ?_; rintro e' w2 ⟨rfl, hb⟩; have HS2 := hide ((unhide HS1).later hb); clear hb HS1 y0 y1)
  rcases hbad with ⟨rfl, rfl | rfl⟩ | rfl | rfl
  all_goals
    go_wp2_with (go_at_call 13; refine (unhide HK _ ((unhide HTW).later (unhide HS2).b)).mono ?_; rintro e' w3 ⟨rfl, hb⟩; have HS3 := hide ((unhide HS2).later hb); clear hb HS2)
    go_ret
    exact ⟨rfl, (unhide HS3).b⟩
theorem nearest_walk (n1 d1 n2 d2 s1 s2 t1 t2 : ByteArray) (f g up dn : Nat) (o i j : Int) (x1 x2 z : Bool) (w : World) (htab : Tab w)
    (HF : ∀ W : World, Tab W → Calls Tryz.prog 10 #[.agg #[.string n1, .string d1]] W fun r w' => r = .returned (.tuple #[.float .f64 f, .int .i64 0]) ∧ Below W.heap.size W w')
    (HG : ∀ W : World, Tab W → Calls Tryz.prog 10 #[.agg #[.string n2, .string d2]] W fun r w' => r = .returned (.tuple #[.float .f64 g, .int .i64 0]) ∧ Below W.heap.size W w')
    (HA1 : ∀ W : World, Calls Tryz.prog 27 #[.agg #[.string n1, .string d1], .agg #[.string n2, .string d2]] W fun r w' => r = .returned (.bool x1) ∧ Below W.heap.size W w')
    (HA2 : ∀ W : World, Calls Tryz.prog 27 #[.agg #[.string n2, .string d2], .agg #[.string n1, .string d1]] W fun r w' => r = .returned (.bool x2) ∧ Below W.heap.size W w')
    (HO : ∀ W : World, Calls Tryz.prog 20 #[.float .f64 f, .float .f64 g] W fun r w' => r = .returned (.int .i64 o) ∧ w' = W)
    (hx1 : x1 = true → ¬ o < 0) (hx2 : x2 = true → ¬ 0 < o)
    (HU : ∀ W : World, Calls Tryz.prog 22 #[.float .f64 f, .bool true] W fun r w' => r = .returned (.float .f64 up) ∧ w' = W)
    (HD : ∀ W : World, Calls Tryz.prog 22 #[.float .f64 f, .bool false] W fun r w' => r = .returned (.float .f64 dn) ∧ w' = W)
    (HE1 : ∀ W : World, Tab W → Calls Tryz.prog 14 #[.float .f64 up] W fun r w' => r = .returned (.tuple #[.agg #[.string s1, .string s2], .int .i64 i]) ∧ Below W.heap.size W w')
    (HE2 : ∀ W : World, Tab W → Calls Tryz.prog 14 #[.float .f64 dn] W fun r w' => r = .returned (.tuple #[.agg #[.string t1, .string t2], .int .i64 j]) ∧ Below W.heap.size W w')
    (hz : (FloatKind.f64.format.order f 0 == some Ordering.eq) = z)
    (hw1 : ¬ i = 0 ∨ (i = 0 ∧ z = true) ∨ (i = 0 ∧ z = false ∧ ∀ W : World, Calls Tryz.prog 27 #[.agg #[.string n1, .string d1], .agg #[.string s1, .string s2]] W fun r w' => r = .returned (.bool false) ∧ Below W.heap.size W w'))
    (hw2 : ¬ j = 0 ∨ (j = 0 ∧ z = true) ∨ (j = 0 ∧ z = false ∧ ∀ W : World, Calls Tryz.prog 27 #[.agg #[.string t1, .string t2], .agg #[.string n1, .string d1]] W fun r w' => r = .returned (.bool false) ∧ Below W.heap.size W w')) :
    Calls Tryz.prog 8 #[.agg #[.string n1, .string d1], .agg #[.string n2, .string d2]] w fun r w' => r = .returned (.bool true) ∧ Below w.heap.size w w' := by
  obtain ⟨V, hV⟩ : ∃ V, V = (w.alloc (.cells #[.string n1, .string d1] 23)).alloc (.cells #[.string n2, .string d2] 23) := ⟨_, rfl⟩
  have HS : Hid (NS w V n1 d1 n2 d2) := by rw [hV]; exact NS.begin w n1 d1 n2 d2
  have G1 := hide HF; have G2 := hide HG
  have GA1 := hide HA1; have GA2 := hide HA2; have GO := hide HO; have GU := hide HU; have GD := hide HD; have GE1 := hide HE1; have GE2 := hide HE2
  have HW1 := hide hw1; have HW2 := hide hw2
  have HZ := hide hz
  have HO1 : Hid (x1 = false ∨ (x1 = true ∧ ¬ o < 0)) := by cases x1; exact Or.inl rfl; exact Or.inr ⟨rfl, hx1 rfl⟩
  have HO2 : Hid (x2 = false ∨ (x2 = true ∧ ¬ 0 < o)) := by cases x2; exact Or.inl rfl; exact Or.inr ⟨rfl, hx2 rfl⟩
  clear hx1 hx2
  have HTW := hide htab
  have HK := hide (fun W (h : Tab W) => known_ok W h)
  have HV := hide hV
  clear hV htab HF HG HA1 HA2 HO HU HD HE1 HE2 hw1 hw2 hz
  go_enter Tryz.func8, Tryz.ntmps8
  go_upto_region 1 with fail
  rw [← unhide HV]
  clear HV
  have c0 := (unhide HS).x.c0; have c1 := (unhide HS).x.c1
  go_upto_region 2 with (go_at_call 10; refine (unhide G1 _ ((unhide HTW).later (unhide HS).b)).mono ?_; rintro e' w1 ⟨rfl, hb⟩; have HS1 := hide ((unhide HS).later hb); clear hb HS c0 c1)
  have y0 := (unhide HS1).y.c0; have y1 := (unhide HS1).y.c1
  go_upto_region 5 with (go_at_call 10; refine (unhide G2 _ ((unhide HTW).later (unhide HS1).b)).mono ?_; rintro e' w2 ⟨rfl, hb⟩; have HS2 := hide ((unhide HS1).later hb); clear hb HS1 y0 y1)
  have c0 := (unhide HS2).x.c0; have c1 := (unhide HS2).x.c1; have y0 := (unhide HS2).y.c0; have y1 := (unhide HS2).y.c1
  go_cut [4, 63] from 9 (fun v4 v63 wx => v4 = .bool false ∧ v63 = .bool false ∧ Hid (NS w wx n1 d1 n2 d2))
  case first =>
    have ho1 := unhide HO1
    have ho2 := unhide HO2
    clear HO1 HO2
    rcases ho1 with rfl | ⟨rfl, ho1⟩ <;> rcases ho2 with rfl | ⟨rfl, ho2⟩
    all_goals
      go_wp2_with (first
        | (have hchk := HS2; clear hchk; go_at_call 27; go_must (refine (unhide GA1 _).mono ?_; rintro e' w3 ⟨rfl, hb⟩; have HS3 := hide ((unhide HS2).later hb); clear hb HS2 c0 c1 y0 y1; have c0 := (unhide HS3).x.c0; have c1 := (unhide HS3).x.c1; have y0 := (unhide HS3).y.c0; have y1 := (unhide HS3).y.c1))
        | (have hchk := HS3; clear hchk; go_at_call 27; go_must (refine (unhide GA2 _).mono ?_; rintro e' w4 ⟨rfl, hb⟩; have HS4 := hide ((unhide HS3).later hb); clear hb HS3 c0 c1 y0 y1; have c0 := (unhide HS4).x.c0; have c1 := (unhide HS4).x.c1; have y0 := (unhide HS4).y.c0; have y1 := (unhide HS4).y.c1))
        | (go_at_call 20; go_must (refine (unhide GO _).mono ?_; rintro e' w5 ⟨rfl, hw⟩; obtain rfl := hw.symm)))
      go_meet
      exact ⟨rfl, by first | rfl | simp [*], HS4⟩
  case rest =>
    obtain ⟨rfl, rfl, HS5⟩ := hcut
    generalize wc = Y0 at *
    go_upto_region 9 with (first
        | (go_at_call_of 22 (Value.bool true); go_must (refine (unhide GU _).mono ?_; rintro e' w6 ⟨rfl, hw⟩; obtain rfl := hw.symm))
        | (go_at_call_of 22 (Value.bool false); go_must (refine (unhide GD _).mono ?_; rintro e' w7 ⟨rfl, hw⟩; obtain rfl := hw.symm)))
    go_upto_region 10 with (go_at_call 14; go_must (refine (unhide GE1 _ ((unhide HTW).later (unhide HS5).b)).mono ?_; rintro e' w6 ⟨rfl, hb⟩; have HS6 := hide ((unhide HS5).later hb); clear hb HS5))
    obtain ⟨U, hU⟩ : ∃ U, U = w6.alloc (.cells #[.string s1, .string s2] 23) := ⟨_, rfl⟩
    have HA : Hid (T2 U w6.heap.size (.string s1) (.string s2)) := by rw [hU]; exact ⟨by simp [go_sem], by simp [go_sem], by simp [go_sem], by simp [go_sem]⟩
    have hbu : Below w6.heap.size w6 U := by rw [hU]; exact (Below.refl _ _).alloc (Nat.le_refl _) _
    have HS7 := hide ((unhide HS6).later hbu)
    rw [← hU]
    clear hU hbu HS6
    generalize w6.heap.size = gA at *
    go_upto_region 11 with (go_at_call 14; go_must (refine (unhide GE2 _ ((unhide HTW).later (unhide HS7).b)).mono ?_; rintro e' w8 ⟨rfl, hb⟩; have HS8 := hide ((unhide HS7).later hb); have HA8 := hide ((unhide HA).later hb); clear hb HS7 HA))
    obtain ⟨U2, hU2⟩ : ∃ U2, U2 = w8.alloc (.cells #[.string t1, .string t2] 23) := ⟨_, rfl⟩
    have HC : Hid (T2 U2 w8.heap.size (.string t1) (.string t2)) := by rw [hU2]; exact ⟨by simp [go_sem], by simp [go_sem], by simp [go_sem], by simp [go_sem]⟩
    have hbu : Below w8.heap.size w8 U2 := by rw [hU2]; exact (Below.refl _ _).alloc (Nat.le_refl _) _
    have HS9 := hide ((unhide HS8).later hbu)
    have HA9 := hide ((unhide HA8).later hbu)
    rw [← hU2]
    clear hU2 hbu HS8 HA8
    generalize w8.heap.size = gC at *
    have c0 := (unhide HS9).x.c0; have c1 := (unhide HS9).x.c1; have a0 := (unhide HA9).c0; have a1 := (unhide HA9).c1; have b0 := (unhide HC).c0; have b1 := (unhide HC).c1
    have hz := unhide HZ
    rcases unhide HW1 with h1 | ⟨rfl, hzt⟩ | ⟨rfl, hzf, h27⟩
    · clear HW1 HZ
      rcases unhide HW2 with h2 | ⟨rfl, hzt⟩ | ⟨rfl, hzf, h27⟩
      · clear HW2 hz
        go_wp2_with (go_at_call 13; refine (unhide HK _ ((unhide HTW).later (unhide HS9).b)).mono ?_; rintro e' w9 ⟨rfl, hb⟩; have HS10 := hide ((unhide HS9).later hb); clear hb HS9)
        go_ret
        exact ⟨rfl, (unhide HS10).b⟩
      · subst hzt
        clear HW2
        go_wp2_with (go_at_call 13; refine (unhide HK _ ((unhide HTW).later (unhide HS9).b)).mono ?_; rintro e' w9 ⟨rfl, hb⟩; have HS10 := hide ((unhide HS9).later hb); clear hb HS9)
        go_ret
        exact ⟨rfl, (unhide HS10).b⟩
      · subst hzf
        have G27 := hide h27
        clear HW2 h27
        go_wp2_with (first
          | (have hchk := HS9; clear hchk; go_at_call 27; go_must (refine (unhide G27 _).mono ?_; rintro e' w9 ⟨rfl, hb⟩; have HS10 := hide ((unhide HS9).later hb); clear hb HS9))
          | (go_at_call 13; refine (unhide HK _ ((unhide HTW).later (unhide HS10).b)).mono ?_; rintro e' w10 ⟨rfl, hb⟩; have HS11 := hide ((unhide HS10).later hb); clear hb HS10))
        go_ret
        exact ⟨rfl, (unhide HS11).b⟩
    · subst hzt
      clear HW1 HZ
      have h2 : ¬ j = 0 ∨ j = 0 := by rcases unhide HW2 with h | ⟨h, _⟩ | ⟨h, _⟩ <;> omega
      clear HW2
      rcases h2 with h2 | rfl
      all_goals
        go_wp2_with (go_at_call 13; refine (unhide HK _ ((unhide HTW).later (unhide HS9).b)).mono ?_; rintro e' w9 ⟨rfl, hb⟩; have HS10 := hide ((unhide HS9).later hb); clear hb HS9)
        go_ret
        exact ⟨rfl, (unhide HS10).b⟩
    · subst hzf
      have G27 := hide h27
      clear HW1 HZ h27
      rcases unhide HW2 with h2 | ⟨_, hzt⟩ | ⟨rfl, hzf, h28⟩
      · clear HW2
        go_wp2_with (first
          | (have hchk := HS9; clear hchk; go_at_call 27; go_must (refine (unhide G27 _).mono ?_; rintro e' w9 ⟨rfl, hb⟩; have HS10 := hide ((unhide HS9).later hb); have HC10 := hide ((unhide HC).later hb); clear hb HS9))
          | (go_at_call 13; refine (unhide HK _ ((unhide HTW).later (unhide HS10).b)).mono ?_; rintro e' w10 ⟨rfl, hb⟩; have HS11 := hide ((unhide HS10).later hb); clear hb HS10))
        go_ret
        exact ⟨rfl, (unhide HS11).b⟩
      · cases hzt
      · have G28 := hide h28
        clear HW2 h28 hzf
        go_wp2_with (first
          | (have hchk := HS9; clear hchk; go_at_call 27; go_must (refine (unhide G27 _).mono ?_; rintro e' w9 ⟨rfl, hb⟩; have HS10 := hide ((unhide HS9).later hb); have HC10 := hide ((unhide HC).later hb); clear hb HS9 HA9 HC c0 c1 a0 a1 b0 b1; have c0 := (unhide HS10).x.c0; have c1 := (unhide HS10).x.c1; have b0 := (unhide HC10).c0; have b1 := (unhide HC10).c1))
          | (have hchk := HS10; clear hchk; go_at_call 27; go_must (refine (unhide G28 _).mono ?_; rintro e' w10 ⟨rfl, hb⟩; have HS11 := hide ((unhide HS10).later hb); clear hb HS10))
          | (go_at_call 13; refine (unhide HK _ ((unhide HTW).later (unhide HS11).b)).mono ?_; rintro e' w11 ⟨rfl, hb⟩; have HS12 := hide ((unhide HS11).later hb); clear hb HS11))
        go_ret
        exact ⟨rfl, (unhide HS12).b⟩
theorem exV_two (b : Nat) : ∃ (n d : ByteArray) (e : Int), exV b = .tuple #[.agg #[.string n, .string d], .int .i64 e] := by
  unfold exV
  split
  · exact ⟨_, _, _, rfl⟩
  · split
    · exact ⟨_, _, _, rfl⟩
    · exact ⟨_, _, _, rfl⟩
theorem cmp_eq0 (x : Int) : (some (compare x 0) == some Ordering.eq) = decide (x = 0) := by
  simp only [compare, compareOfLessAndEq]
  split
  · rw [decide_eq_false (by omega)]; rfl
  · split
    · rw [decide_eq_true (by assumption)]; rfl
    · rw [decide_eq_false (by assumption)]; rfl
theorem eq_zero (b : Nat) (h : b % 9223372036854775808 < 9218868437227405312) : (FloatKind.f64.format.order b 0 == some Ordering.eq) = decide (b % 9223372036854775808 = 0) := by
  obtain ⟨m, i, hr, hm⟩ := fin_read b h
  show ((Ieee.double.read b).order (Ieee.double.read 0) == some Ordering.eq) = _
  rw [hr, zero_read]
  generalize (b / 9223372036854775808 % 2 == 1) = s
  simp only [Ieee.Datum.order]
  have hz : ∀ k, Ieee.signed false 0 k = 0 := fun k => by simp [Ieee.signed]
  rw [hz, cmp_eq0, decide_eq_decide, ← hm]
  by_cases e : m = 0
  · subst e
    have : ∀ k, Ieee.signed s 0 k = 0 := fun k => by cases s <;> simp [Ieee.signed]
    rw [this]
    simp
  · have hp : ∀ k, 0 < m <<< k := fun k => by rw [Nat.shiftLeft_eq]; exact Nat.mul_pos (by omega) (Nat.two_pow_pos k)
    generalize (i - min i (-1074)).toNat = k
    have hk := hp k
    unfold Ieee.signed
    generalize m <<< k = q at *
    cases s
    · simp [e]; omega
    · simp [e]; omega
theorem ex_rt (b : Bool) (v : Nat) (s1 s2 : ByteArray) (hv : v < 9218868437227405312) (he : exV (sgw b v) = .tuple #[.agg #[.string s1, .string s2], .int .i64 0]) : RT s1 s2 (decide (qB (sgw b v) < 0)) (qB (sgw b v)).num.natAbs (qB (sgw b v)).den := by
  have hn : nanB (sgw b v) = false := by unfold nanB sgw; cases b <;> exact decide_eq_false (by simp; omega)
  have hi : infB (sgw b v) = false := by unfold infB sgw; cases b <;> exact decide_eq_false (by simp; omega)
  rw [exV_fin _ hn hi] at he
  generalize qB (sgw b v) = x at *
  simp only [Value.tuple.injEq, Array.mk.injEq, List.cons.injEq, Value.int.injEq, Value.agg.injEq, Value.string.injEq, true_and, and_true] at he
  obtain ⟨⟨h1, h2⟩, h3⟩ := he
  by_cases hs : Small x
  · unfold numT at h1
    unfold denT at h2
    rw [if_pos hs] at h1 h2
    exact ⟨h1.symm, h2.symm, hs.1, hs.2, (Cub.low_of x).1⟩
  · unfold errT at h3
    rw [if_neg hs] at h3
    omega
theorem ex_inf (b : Bool) : exV (sgw b 9218868437227405312) = .tuple #[.agg #[.string ⟨#[]⟩, .string ⟨#[]⟩], .int .i64 31] := by
  have hn : nanB (sgw b 9218868437227405312) = false := by unfold nanB sgw; cases b <;> decide
  have hi : infB (sgw b 9218868437227405312) = true := by unfold infB sgw; cases b <;> decide
  unfold exV
  rw [hn, hi]
  rfl
/-- What Near answers. -/
theorem near_ans (num den : ByteArray) (hs1 : num.size ≤ maxLen) (hs2 : den.size ≤ maxLen) :
    ∃ (f : Nat) (e : Int), (∀ W : World, Tab W → Calls Tryz.prog 10 #[.agg #[.string num, .string den]] W fun r w' => r = .returned (.tuple #[.float .f64 f, .int .i64 e]) ∧ Below W.heap.size W w') ∧ ((e = 0 ∧ ∃ b n d u, RT num den b n d ∧ NearU n d u ∧ f = sgw b u) ∨ e = 3 ∨ e = 31) := by
  by_cases h : RightT num den
  · obtain ⟨b, n, d, h⟩ := h
    obtain ⟨f, er, ht, hc⟩ := near_all2 num den b n d h
    refine ⟨f, er, fun W hW => near_ok num den b n d f er W h hW ht, ?_⟩
    rcases hc with ⟨h1, u, h2, h3⟩ | h1
    · exact Or.inl ⟨h1, b, n, d, u, h, h2, h3⟩
    · exact Or.inr (Or.inr h1)
  · exact ⟨0, 3, fun W _ => near_no num den W hs1 hs2 h, Or.inr (Or.inl rfl)⟩
theorem sgw_lt (b : Bool) (u : Nat) (hu : u < 9218868437227405312) : sgw b u < 18446744073709551616 := by unfold sgw; split <;> omega
theorem sgw_mod (b : Bool) (u : Nat) (hu : u < 9218868437227405312) : sgw b u % 9223372036854775808 = u := by unfold sgw; split <;> omega
theorem law_nearest (n1 d1 n2 d2 : ByteArray) (hs1 : n1.size ≤ maxLen) (hs2 : d1.size ≤ maxLen) (hs3 : n2.size ≤ maxLen) (hs4 : d2.size ≤ maxLen) (w : World) (htab : Tab w) :
    Calls Tryz.prog 8 #[.agg #[.string n1, .string d1], .agg #[.string n2, .string d2]] w fun r w' => r = .returned (.bool true) ∧ Below w.heap.size w w' := by
  obtain ⟨f, e, HF, hf⟩ := near_ans n1 d1 hs1 hs2
  obtain ⟨g, h, HG, hg⟩ := near_ans n2 d2 hs3 hs4
  rcases hf with ⟨rfl, b, n, d, u, hr, hn, rfl⟩ | hf
  · rcases hg with ⟨rfl, c, m, k, v, gr, gn, rfl⟩ | hg
    · have hu := hn.lt
      have hv := gn.lt
      have hfl := sgw_lt b u hu
      obtain ⟨s1, s2, i, he1⟩ := exV_two (nextF (sgw b u) true)
      obtain ⟨t1, t2, j, he2⟩ := exV_two (nextF (sgw b u) false)
      have hz := eq_zero (sgw b u) (by rw [sgw_mod b u hu]; exact hu)
      rw [sgw_mod b u hu] at hz
      refine nearest_walk n1 d1 n2 d2 s1 s2 t1 t2 (sgw b u) (sgw c v) (nextF (sgw b u) true) (nextF (sgw b u) false) (Cub.cmpN (rk (sgw b u)) (rk (sgw c v))) i j (abv b n d c m k) (abv c m k b n d) (decide (u = 0)) w htab HF HG
        (fun W => above_any n1 d1 n2 d2 b c n d m k W hr gr) (fun W => above_any n2 d2 n1 d1 c b m k n d W gr hr)
        (fun W => order_any _ _ hfl (sgw_lt c v hv) W)
        (ord_ok b c n d u m k v hn gn hr.low.pos gr.low.pos)
        (fun hx => by rw [cmpN_swap (rk (sgw c v)) (rk (sgw b u))]; have := ord_ok c b m k v n d u gn hn gr.low.pos hr.low.pos hx; omega)
        (fun W => next_any _ true hfl W) (fun W => next_any _ false hfl W)
        (fun W hW => by have := exact_any _ (nextF_lt (sgw b u) true hfl) W hW; rwa [he1] at this)
        (fun W hW => by have := exact_any _ (nextF_lt (sgw b u) false hfl) W hW; rwa [he2] at this)
        hz ?_ ?_
      · by_cases hi : i = 0
        · right
          by_cases h0 : u = 0
          · exact Or.inl ⟨hi, decide_eq_true h0⟩
          · right
            refine ⟨hi, decide_eq_false h0, fun W => ?_⟩
            rw [nextS_up b u hu (by omega), hi] at he1
            obtain ⟨v', hv'⟩ : ∃ v', v' = if b then u - 1 else u + 1 := ⟨_, rfl⟩
            rw [← hv'] at he1
            have hvl : v' < 9218868437227405312 ∨ v' = 9218868437227405312 := by cases b <;> simp at hv' <;> omega
            rcases hvl with hvl | hvl
            · have ht := ex_rt b v' s1 s2 hvl he1
              have ha := above_any n1 d1 s1 s2 b _ n d _ _ W hr ht
              rwa [up_ok b n d u hn v' hv' hvl] at ha
            · rw [hvl, ex_inf] at he1
              simp at he1
        · exact Or.inl hi
      · by_cases hi : j = 0
        · right
          by_cases h0 : u = 0
          · exact Or.inl ⟨hi, decide_eq_true h0⟩
          · right
            refine ⟨hi, decide_eq_false h0, fun W => ?_⟩
            rw [nextS_dn b u hu (by omega), hi] at he2
            obtain ⟨v', hv'⟩ : ∃ v', v' = if b then u + 1 else u - 1 := ⟨_, rfl⟩
            rw [← hv'] at he2
            have hvl : v' < 9218868437227405312 ∨ v' = 9218868437227405312 := by cases b <;> simp at hv' <;> omega
            rcases hvl with hvl | hvl
            · have ht := ex_rt b v' t1 t2 hvl he2
              have ha := above_any t1 t2 n1 d1 _ b _ _ n d W ht hr
              rwa [dn_ok b n d u hn v' hv' hvl] at ha
            · rw [hvl, ex_inf] at he2
              simp at he2
        · exact Or.inl hi
    · exact nearest_bad n1 d1 n2 d2 _ g 0 h w htab HF HG (Or.inl ⟨rfl, hg⟩)
  · exact nearest_bad n1 d1 n2 d2 f g e h w htab HF HG (Or.inr hf)
end Go.Proofs.YtijifpbpjinmhaaGreatDoor
