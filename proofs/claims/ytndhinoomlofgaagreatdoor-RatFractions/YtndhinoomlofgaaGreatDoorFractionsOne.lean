/- Chains whose last part is 1; a row whose last text is written anew. -/
import Derived.Test.YtndhinoomlofgaaGreatDoorRefCBack
import Derived.Test.YtndhinoomlofgaaGreatDoorChainPair
import Derived.Test.YtndhinoomlofgaaGreatDoorChainT
import Derived.Test.YtndhinoomlofgaaGreatDoorBigOf
namespace Go.Proofs.YtndhinoomlofgaaGreatDoor
open Go.RowKit

set_option maxRecDepth 100000 in
set_option maxHeartbeats 2000000 in
theorem cback_nil (a : Option Addr) (cap : Nat) (w : World) : Ans 59 #[.slice a 0 cap] w ⟨#[]⟩ ⟨#[]⟩ 3 := by
  unfold Ans
  obtain ⟨V, hV⟩ : ∃ V, V = w.alloc (.cells #[.string ⟨#[]⟩, .string ⟨#[]⟩] 23) := ⟨_, rfl⟩
  have HS0 : Hid (T2 V w.heap.size (.string ⟨#[]⟩) (.string ⟨#[]⟩) ∧ Below w.heap.size w V) := by rw [hV]; exact ⟨⟨by simp [go_sem], by simp [go_sem], by simp [go_sem], by simp [go_sem]⟩, alT_below _ _⟩
  have HV := hide hV
  go_enter Tryz.func59, Tryz.ntmps59
  go_upto_region 1 with fail
  rw [← unhide HV]
  clear hV HV
  have r0 := (unhide HS0).1.c0; have r1 := (unhide HS0).1.c1; have rf0 := (unhide HS0).1.f0; have rf1 := (unhide HS0).1.f1
  go_wp2_with fail
  have hS := (unhide HS0).1.store (.string ⟨#[]⟩) (.string ⟨#[]⟩)
  have hb := below_store2 (unhide HS0).2 (Nat.le_refl _) (.string ⟨#[]⟩) (.string ⟨#[]⟩)
  have v0 := hS.c0; have v1 := hS.c1
  exact bodyPost_ret (v := .tuple #[.agg #[.string ⟨#[]⟩, .string ⟨#[]⟩], .int .i64 3]) (w := store2 V w.heap.size (.string ⟨#[]⟩) (.string ⟨#[]⟩)) (by simp [results, Tryz.results59, go_sem, v0, v1]) rfl ⟨rfl, hb⟩

set_option maxRecDepth 100000 in
set_option maxHeartbeats 2000000 in
theorem cback_no (a : Option Addr) (s : ByteArray) (ss : List ByteArray) (cap : Nat) (w : World) (hrow : RowS w (.slice a (ss.length + 1) cap) (s :: ss)) (h : ∀ W, Calls Tryz.prog 78 #[.agg #[.string s, .string ⟨#[49]⟩]] W fun r w' => r = .returned (.tuple #[zeroF, .bool false]) ∧ Below W.heap.size W w') : Ans 59 #[.slice a (ss.length + 1) cap] w ⟨#[]⟩ ⟨#[]⟩ 3 := by
  unfold zeroF at h
  unfold Ans
  obtain ⟨V, hV⟩ : ∃ V, V = w.alloc (.cells #[.string ⟨#[]⟩, .string ⟨#[]⟩] 23) := ⟨_, rfl⟩
  have HS0 : Hid (T2 V w.heap.size (.string ⟨#[]⟩) (.string ⟨#[]⟩) ∧ Below w.heap.size w V) := by rw [hV]; exact ⟨⟨by simp [go_sem], by simp [go_sem], by simp [go_sem], by simp [go_sem]⟩, alT_below _ _⟩
  have HV := hide hV
  obtain ⟨a', cap', ee, hcap, hmax, _, hcells⟩ := hrow
  simp only [Value.slice.injEq] at ee
  obtain ⟨rfl, _, rfl⟩ := ee
  obtain ⟨b0, o0, rfl, hlt0, hc0⟩ := hcells 0 (by simp)
  simp only [Nat.add_zero, List.getElem_cons_zero] at hc0
  have HC0 : Hid (∀ W, Below w.heap.size w W → W.cell? ⟨b0, o0, none⟩ = some (.string s)) := fun W hb => (hb.cell (p := ⟨b0, o0, none⟩) hlt0).trans hc0
  have H := hide h
  clear hcells hc0 hlt0 h hcap
  generalize ss.length = K at *
  have hz2 : (((K : Int) + 1) == 0) = false := by rw [beq_eq_false_iff_ne]; omega
  have hp1 : (0 : Int) < (K : Int) + 1 := by omega
  go_enter Tryz.func59, Tryz.ntmps59
  go_upto_region 3 with fail
  rw [← unhide HV]
  clear hV HV
  have t0 := unhide HC0 V (unhide HS0).2
  go_upto_region 4 with (go_at_call 78; go_must (refine (unhide H _).mono ?_; rintro e w1 ⟨rfl, hb1⟩; have HS1 : Hid (T2 w1 w.heap.size (.string ⟨#[]⟩) (.string ⟨#[]⟩) ∧ Below w.heap.size w w1) := ⟨(unhide HS0).1.later hb1, (unhide HS0).2.trans (hb1.mono (unhide HS0).2.size)⟩; clear hb1 t0))
  obtain ⟨V2, hV2⟩ : ∃ V2, V2 = w1.alloc (.cells #[.bool false, .slice none 0 0, .slice none 0 0] 74) := ⟨_, rfl⟩
  have HS2 : Hid (T2 V2 w.heap.size (.string ⟨#[]⟩) (.string ⟨#[]⟩) ∧ Below w.heap.size w V2) := by
    have hb : Below w1.heap.size w1 V2 := by rw [hV2]; exact alT_below _ _
    exact ⟨(unhide HS1).1.later hb, (unhide HS1).2.trans (hb.mono (unhide HS1).2.size)⟩
  rw [← hV2]
  clear hV2
  have r0 := (unhide HS2).1.c0; have r1 := (unhide HS2).1.c1; have rf0 := (unhide HS2).1.f0; have rf1 := (unhide HS2).1.f1
  go_wp2_with fail
  have hS := (unhide HS2).1.store (.string ⟨#[]⟩) (.string ⟨#[]⟩)
  have hb := below_store2 (unhide HS2).2 (Nat.le_refl _) (.string ⟨#[]⟩) (.string ⟨#[]⟩)
  have v0 := hS.c0; have v1 := hS.c1
  exact bodyPost_ret (v := .tuple #[.agg #[.string ⟨#[]⟩, .string ⟨#[]⟩], .int .i64 3]) (w := store2 V2 w.heap.size (.string ⟨#[]⟩) (.string ⟨#[]⟩)) (by simp [results, Tryz.results59, go_sem, v0, v1]) rfl ⟨rfl, hb⟩

/-- What Back answers of a list whose first text is a whole number. -/
theorem back_vals (x : Rat) (ss : List ByteArray) : ∃ (rn rd : ByteArray) (re : Int), (¬ (∀ t ∈ ss, goodS t) → rn = ⟨#[]⟩ ∧ rd = ⟨#[]⟩ ∧ re = 3) ∧
    ((∀ t ∈ ss, goodS t) → ¬ (Cub.un (ss.map val)).2.1 < 10 ^ 600 → rn = ⟨#[]⟩ ∧ rd = ⟨#[]⟩ ∧ re = 7) ∧
    ((∀ t ∈ ss, goodS t) → (Cub.un (ss.map val)).2.1 < 10 ^ 600 → rn = numT (x + Cub.valQ false (Cub.un (ss.map val)).1.1 (Cub.un (ss.map val)).2.1) ∧ rd = denT (x + Cub.valQ false (Cub.un (ss.map val)).1.1 (Cub.un (ss.map val)).2.1) ∧ re = errT (x + Cub.valQ false (Cub.un (ss.map val)).1.1 (Cub.un (ss.map val)).2.1)) := by
  by_cases h : ∀ t ∈ ss, goodS t
  · by_cases h2 : (Cub.un (ss.map val)).2.1 < 10 ^ 600
    · exact ⟨_, _, _, fun k => absurd h k, fun _ k => absurd h2 k, fun _ _ => ⟨rfl, rfl, rfl⟩⟩
    · exact ⟨_, _, _, fun k => absurd h k, fun _ _ => ⟨rfl, rfl, rfl⟩, fun _ k => absurd k h2⟩
  · exact ⟨_, _, _, fun _ => ⟨rfl, rfl, rfl⟩, fun k => absurd k h, fun k => absurd k h⟩
end Go.Proofs.YtndhinoomlofgaaGreatDoor

namespace Cub
theorem EU.pos {d r : Nat} {ts : List Nat} (h : EU d r ts) : r < d → ∀ t ∈ ts, 0 < t ∧ t ≤ d := by
  induction h with
  | nil => intro _ t ht; cases ht
  | step h t ih =>
    rename_i d r ts
    intro hl u hu
    rcases List.mem_cons.1 hu with rfl | hu
    · exact ⟨Nat.div_pos (by omega) (by omega), Nat.div_le_self _ _⟩
    · have := ih (Nat.mod_lt _ (by omega)) u hu
      exact ⟨this.1, by omega⟩
/-- What the steps of a number in lowest terms come to. -/
theorem EU.val {d r : Nat} {ts : List Nat} (h : EU d r ts) : Nat.gcd d r = 1 → pr ts = (d, r) := by
  induction h with
  | nil => intro hg; rw [Nat.gcd_zero_right] at hg; rw [hg]; rfl
  | step h t ih =>
    rename_i d r ts
    intro hg
    have e := ih (by rw [Nat.gcd_comm, ← Nat.gcd_rec, Nat.gcd_comm]; exact hg)
    simp only [pr]
    rw [e]
    have := Nat.div_add_mod d r
    rw [Nat.mul_comm] at this
    simp only [this]
theorem pr_pos : ∀ (ts : List Nat) (_ : ∀ t ∈ ts, 0 < t), 0 < (pr ts).1
  | [], _ => by decide
  | t :: ts, h => by
    have := Nat.mul_pos (h t (by simp)) (pr_pos ts (fun x hx => h x (by simp [hx])))
    simp only [pr]
    omega
/-- A chain whose last part is not 1 is the steps of what it comes to. -/
theorem EU.of_pr : ∀ (ts : List Nat) (_ : ∀ t ∈ ts, 0 < t) (_ : ∀ k, ts.getLast? = Option.some k → k ≠ 1), (pr ts).2 < (pr ts).1 ∧ EU (pr ts).1 (pr ts).2 ts
  | [], _, _ => ⟨by decide, .nil⟩
  | [t], hp, hl => by
    have h0 := hp t (by simp)
    have h1 := hl t rfl
    simp only [pr, Nat.mul_one, Nat.add_zero]
    refine ⟨by omega, ?_⟩
    have := EU.step (d := t) (r := 1) (ts := []) (by decide) (by rw [Nat.mod_one]; exact .nil)
    rwa [Nat.div_one] at this
  | t :: u :: ts, hq, hl => by
    obtain ⟨i1, i2⟩ := EU.of_pr (u :: ts) (fun x hx => hq x (List.mem_cons_of_mem _ hx)) (fun k hk => hl k (by rw [List.getLast?_cons_cons]; exact hk))
    have h0 := hq t (by simp)
    have hp2 : 0 < (pr (u :: ts)).2 := pr_pos ts (fun x hx => hq x (by simp [hx]))
    show (pr (u :: ts)).1 < t * (pr (u :: ts)).1 + (pr (u :: ts)).2 ∧ EU (t * (pr (u :: ts)).1 + (pr (u :: ts)).2) (pr (u :: ts)).1 (t :: u :: ts)
    obtain ⟨p, hp⟩ : ∃ p, p = pr (u :: ts) := ⟨_, rfl⟩
    rw [← hp] at i1 i2 hp2 ⊢
    have e1 : (t * p.1 + p.2) / p.1 = t := by
      rw [Nat.add_comm, Nat.mul_comm, Nat.add_mul_div_left _ _ (by omega), Nat.div_eq_of_lt i1, Nat.zero_add]
    have e2 : (t * p.1 + p.2) % p.1 = p.2 := by
      rw [Nat.add_comm, Nat.mul_comm, Nat.add_mul_mod_self_left, Nat.mod_eq_of_lt i1]
    refine ⟨?_, ?_⟩
    · have := Nat.le_mul_of_pos_left p.1 h0
      omega
    · have h2 := EU.step (d := t * p.1 + p.2) (r := p.1) (ts := u :: ts) (by omega) (by rw [e2]; exact i2)
      rwa [e1] at h2
/-- A 1 at the end goes up into the part ahead of it. -/
theorem pr_last : ∀ (ms : List Nat) (k : Nat), pr (ms ++ [k, 1]) = pr (ms ++ [k + 1])
  | [], k => by simp [pr]
  | m :: ms, k => by
    simp only [List.cons_append, pr]
    rw [pr_last ms k]
/-- A whole number and a proper fraction: what they make together. -/
theorem whole_frac (b : Bool) (n R D : Nat) (hb : b = true → n ≠ 0) (hR : R < D) (hg : Nat.gcd D R = 1) : ∃ m, Low b m D ∧ valQ b n 1 + valQ false R D = valQ b m D ∧ (m ≤ n * D + R) ∧
    (if b = true ∧ m % D ≠ 0 then m / D + 1 else m / D) = n ∧ (if b = true ∧ m % D ≠ 0 then D - m % D else m % D) = R := by
  have hD : 0 < D := by omega
  cases b with
  | false =>
    refine ⟨n * D + R, ⟨hD, ?_, fun h => by cases h⟩, ?_, Nat.le_refl _, ?_, ?_⟩
    · rw [Nat.gcd_comm, Nat.mul_comm, Nat.gcd_mul_left_add_right]; exact hg
    · exact sum_val n R D hD
    · rw [if_neg (by simp), Nat.add_comm, Nat.mul_comm, Nat.add_mul_div_left _ _ hD, Nat.div_eq_of_lt hR, Nat.zero_add]
    · rw [if_neg (by simp), Nat.add_comm, Nat.mul_comm, Nat.add_mul_mod_self_left, Nat.mod_eq_of_lt hR]
  | true =>
    have hn : n ≠ 0 := hb rfl
    obtain ⟨k, rfl⟩ : ∃ k, n = k + 1 := ⟨n - 1, by omega⟩
    have e0 : (k + 1) * D - R = D * k + (D - R) := by rw [Nat.add_mul, Nat.one_mul, Nat.mul_comm k D]; omega
    have hle : R ≤ (k + 1) * D := by rw [Nat.add_mul, Nat.one_mul]; omega
    refine ⟨(k + 1) * D - R, ⟨hD, ?_, fun _ => by rw [e0]; omega⟩, ?_, by omega, ?_, ?_⟩
    · rw [e0, Nat.gcd_comm, Nat.gcd_mul_left_add_right, Nat.gcd_self_sub_right (by omega)]; exact hg
    · have := valQ_add (b := true) (c := false) (bb := true) (n := k + 1) (d := 1) (k := R) (e := D) (m := (k + 1) * D - R) (by decide) hD (by
        simp only [sg, if_true]
        rw [Nat.mul_one, Int.ofNat_sub hle]
        push_cast
        omega)
      rw [Nat.one_mul] at this
      exact this.symm
    · rcases Nat.eq_zero_or_pos R with h0 | h0
      · subst h0
        rw [Nat.sub_zero, Nat.mul_mod_left, if_neg (by simp), Nat.mul_div_cancel _ hD]
      · rw [e0]
        have e2 : (D * k + (D - R)) % D = D - R := by rw [Nat.add_comm, Nat.add_mul_mod_self_left, Nat.mod_eq_of_lt (by omega)]
        have e1 : (D * k + (D - R)) / D = k := by rw [Nat.add_comm, Nat.add_mul_div_left _ _ hD, Nat.div_eq_of_lt (by omega), Nat.zero_add]
        rw [e2, e1, if_pos ⟨rfl, by omega⟩]
    · rcases Nat.eq_zero_or_pos R with h0 | h0
      · subst h0
        rw [Nat.sub_zero, Nat.mul_mod_left, if_neg (by simp)]
      · rw [e0]
        have e2 : (D * k + (D - R)) % D = D - R := by rw [Nat.add_comm, Nat.add_mul_mod_self_left, Nat.mod_eq_of_lt (by omega)]
        rw [e2, if_pos ⟨rfl, by omega⟩]
        omega
/-- The whole part and what is left make the number. -/
theorem floor_sum (b : Bool) (n d F R : Nat) (hd : 0 < d) (hF : F = if b = true ∧ n % d ≠ 0 then n / d + 1 else n / d) (hR : R = if b = true ∧ n % d ≠ 0 then d - n % d else n % d) : valQ b F 1 + valQ false R d = valQ b n d := by
  have h1 := Nat.div_add_mod n d
  have h2 := Nat.mod_lt n hd
  have := valQ_add (b := b) (c := false) (bb := b) (n := F) (d := 1) (k := R) (e := d) (m := n) (by decide) hd (by
    cases b with
    | false =>
      rw [if_neg (by simp)] at hF hR
      simp only [sg]
      rw [Nat.mul_one]
      have : n = F * d + R := by rw [hF, hR, Nat.mul_comm]; omega
      simp
      omega
    | true =>
      by_cases h0 : n % d ≠ 0
      · rw [if_pos ⟨rfl, h0⟩] at hF hR
        have : F * d = n + R := by rw [hF, hR, Nat.add_mul, Nat.one_mul, Nat.mul_comm]; omega
        simp only [sg, if_true]
        rw [this, Nat.mul_one]
        simp
        omega
      · rw [if_neg (by simp; omega)] at hF hR
        have : F * d = n := by rw [hF, Nat.mul_comm]; omega
        have e : R = 0 := by omega
        simp only [sg, if_true]
        rw [this, e]
        simp)
  rw [Nat.one_mul] at this
  exact this.symm
end Cub

namespace Go.Proofs.YtndhinoomlofgaaGreatDoor
open Go.RowKit

theorem errT_ok {x : Rat} (h : Small x) : errT x = 0 := by unfold errT; rw [if_pos h]
theorem sx_sT (b : Bool) (n : Nat) (h : n < 10 ^ 600) : sx b n = sT b n := by
  unfold sx sT
  rw [tx_tb n h]
theorem one_tb (h : 1 < 10 ^ 600) : (⟨#[49]⟩ : ByteArray) = tb 1 := by rw [tx_tb 1 h]; decide +kernel
theorem one_lt (E : Nat) (h : E = 600) : (1 : Nat) < 10 ^ E := Nat.one_lt_pow (by omega) (by decide)
/-- The text of a whole number. -/
theorem isR_whole (b : Bool) (n : Nat) (hn : n < 10 ^ 600) (hb : b = true → n ≠ 0) : IsR (sx b n) ⟨#[49]⟩ (Cub.valQ b n 1) := by
  have hl : Cub.Low b n 1 := ⟨by decide, Nat.gcd_one_right _, hb⟩
  obtain ⟨e1, e2, e3⟩ := Cub.low_is hl
  have h1 := one_lt 600 rfl
  have hs : Small (Cub.valQ b n 1) := ⟨by rw [← e2]; exact hn, by rw [← e3]; exact h1⟩
  refine ⟨hs, ?_, ?_⟩
  · unfold numT
    rw [if_pos hs, ← e1, ← e2]
    exact sx_sT b n hn
  · unfold denT
    rw [if_pos hs, ← e3]
    exact one_tb h1
/-- What the text of a whole number is. -/
theorem whole_isR {s : ByteArray} {y : Rat} (h : IsR s ⟨#[49]⟩ y) : ∃ b n, y = Cub.valQ b n 1 ∧ (b = true → n ≠ 0) ∧ n < 10 ^ 600 ∧ s = sx b n := by
  have r := h.rt
  have hd : y.den = 1 := by
    have h1 := one_lt 600 rfl
    have e := r.den
    rw [one_tb h1] at e
    have a := (tb_right 1 h1).2
    have c := (tb_right y.den r.hd).2
    rw [← e] at c
    rw [a] at c
    exact c.symm
  refine ⟨decide (y < 0), y.num.natAbs, ?_, r.low.sign, r.hn, ?_⟩
  · have := (Cub.low_of y).2
    rw [hd] at this
    exact this.symm
  · rw [r.num, sx_sT _ _ r.hn]
theorem good_tx {t : Nat} (h0 : 0 < t) (h : t < 10 ^ 600) : goodS (tx t) := by
  refine ⟨?_, ?_⟩
  · rw [← tx_tb t h]; exact (tb_right t h).1
  · rw [tx_eq48]; simpa [Nat.pos_iff_ne_zero] using h0
theorem val_map (ts : List Nat) : (ts.map tx).map val = ts := by
  induction ts with
  | nil => rfl
  | cons t ts ih => simp only [List.map_cons]; rw [ih, tx_val]
theorem map_val (ss : List ByteArray) (h : ∀ t ∈ ss, goodS t) : (ss.map val).map tx = ss := by
  induction ss with
  | nil => rfl
  | cons t ts ih =>
    simp only [List.map_cons]
    rw [ih (fun x hx => h x (by simp [hx])), ← goodS_tx (h t (by simp))]
theorem floorN_small (b : Bool) (n d : Nat) (hb : b = true → n ≠ 0) (hd : 0 < d) : floorN b n d ≤ n ∧ (b = true → floorN b n d ≠ 0) := by
  have h1 := Nat.div_add_mod n d
  have h2 := Nat.div_le_self n d
  have h4 := Nat.mod_lt n hd
  unfold floorN
  by_cases h : b = true ∧ n % d ≠ 0
  · rw [if_pos h]
    refine ⟨?_, fun _ => Nat.succ_ne_zero _⟩
    have hd2 : 2 ≤ d := by
      rcases Nat.lt_or_ge d 2 with h3 | h3
      · exfalso
        have e : d = 1 := by omega
        rw [e, Nat.mod_one] at h
        exact h.2 rfl
      · exact h3
    have : 2 * (n / d) ≤ d * (n / d) := Nat.mul_le_mul_right _ hd2
    omega
  · rw [if_neg h]
    refine ⟨h2, fun hbt h0 => ?_⟩
    have : n % d = 0 := by
      rcases Nat.eq_zero_or_pos (n % d) with h3 | h3
      · exact h3
      · exact absurd ⟨hbt, by omega⟩ h
    rw [h0, this] at h1
    exact hb hbt (by omega)
/-- Back of a chain is the number. -/
theorem back_chain (num den : ByteArray) (x : Rat) (hx : IsR num den x) (ts : List Nat) (hts : Cub.EU x.den (floorR (decide (x < 0)) x.num.natAbs x.den) ts) (v : Value) (w : World) (ht : Tab w)
    (hrow : RowS w v (chT (decide (x < 0)) (floorN (decide (x < 0)) x.num.natAbs x.den) ts)) (hlen : ts.length ≤ 1000000) : Ans 59 #[v] w num den 0 := by
  have lx := Cub.low_of x
  obtain ⟨b, hb⟩ : ∃ b, b = decide (x < 0) := ⟨_, rfl⟩
  obtain ⟨n, hn⟩ : ∃ n, n = x.num.natAbs := ⟨_, rfl⟩
  obtain ⟨d, hd⟩ : ∃ d, d = x.den := ⟨_, rfl⟩
  rw [← hb, ← hn, ← hd] at hts hrow lx
  have bn : n < 10 ^ 600 := by rw [hn]; exact hx.bd.1
  have bd : d < 10 ^ 600 := by rw [hd]; exact hx.bd.2
  have d0 : 0 < d := lx.1.pos
  obtain ⟨f1, f2⟩ := floorN_small b n d lx.1.sign d0
  have hR := floorR_lt b n d d0
  have hy := isR_whole b (floorN b n d) (Nat.lt_of_le_of_lt f1 bn) f2
  have hg : Nat.gcd d (floorR b n d) = 1 := by
    have hc : Nat.gcd d n = 1 := by rw [Nat.gcd_comm]; exact lx.1.cop
    have h1 : Nat.gcd d (n % d) = 1 := by rw [Nat.gcd_comm, ← Nat.gcd_rec]; exact hc
    unfold floorR
    split
    · rw [Nat.gcd_self_sub_right (Nat.le_of_lt (Nat.mod_lt _ d0))]; exact h1
    · exact h1
  have hpr := hts.val hg
  have hun := Cub.un_val ts
  rw [hpr] at hun
  have hpos := hts.pos hR
  obtain ⟨a, cap, e, r⟩ := hrow
  have hl : (chT b (floorN b n d) ts).length = (ts.map tx).length + 1 := by rw [chT_len, List.length_map]
  rw [hl] at e
  subst e
  have hrow : RowS w (.slice a ((ts.map tx).length + 1) cap) (sx b (floorN b n d) :: ts.map tx) := ⟨a, cap, by rw [List.length_cons], r⟩
  have hall : ∀ t ∈ ts.map tx, goodS t := fun t h => by
    obtain ⟨u, hu, rfl⟩ := List.mem_map.1 h
    have := hpos u hu
    exact good_tx this.1 (Nat.lt_of_le_of_lt this.2 bd)
  refine cback_walk a _ _ cap w ht (Cub.valQ b (floorN b n d) 1) num den 0 hrow (by rw [List.length_map]; omega) (fun t h => ?_) (fun W => qread _ _ _ W hy) (fun h => absurd hall h) (fun _ h => ?_) (fun _ _ => ?_)
  · obtain ⟨u, hu, rfl⟩ := List.mem_map.1 h
    have h3 := (tb_digs u (Nat.lt_of_le_of_lt (hpos u hu).2 bd)).2
    rw [tx_tb u (Nat.lt_of_le_of_lt (hpos u hu).2 bd)] at h3
    unfold maxLen; omega
  · exfalso
    rw [val_map, hun.2] at h
    exact h bd
  · rw [val_map, hun.1, hun.2, Cub.floor_sum b n d (floorN b n d) (floorR b n d) d0 rfl rfl, lx.2]
    exact ⟨hx.2.1, hx.2.2, (errT_ok hx.1).symm⟩
/-- What Back answers, with what is known where it answers a number. -/
theorem back_info (L : List ByteArray) (hK : L.length ≤ 8796093022208) (hsz : ∀ t ∈ L, t.size ≤ maxLen) : ∃ (rn rd : ByteArray) (re : Int), (∀ (v : Value) (w : World), RowS w v L → Tab w → Ans 59 #[v] w rn rd re) ∧
    (re ≠ 0 ∨ ∃ s ss b n, L = s :: ss ∧ s = sx b n ∧ (b = true → n ≠ 0) ∧ n < 10 ^ 600 ∧ (∀ t ∈ ss, goodS t) ∧ IsR rn rd (Cub.valQ b n 1 + Cub.valQ false (Cub.pr (ss.map val)).2 (Cub.pr (ss.map val)).1) ∧ re = 0) := by
  cases L with
  | nil =>
    refine ⟨⟨#[]⟩, ⟨#[]⟩, 3, fun v w h _ => ?_, Or.inl (by decide)⟩
    obtain ⟨a, cap, rfl, _⟩ := h
    exact cback_nil a cap w
  | cons s ss =>
    have s1 : s.size ≤ maxLen := hsz s (by simp)
    have s2 : (⟨#[49]⟩ : ByteArray).size ≤ maxLen := by unfold maxLen; decide
    have hsz' : ∀ t ∈ ss, t.size ≤ maxLen := fun t ht => hsz t (by simp [ht])
    simp only [List.length_cons] at hK
    by_cases hr : RightT s ⟨#[49]⟩
    · obtain ⟨x, hx⟩ := (right_isR _ _).1 hr
      obtain ⟨rn, rd, re, h1, h2, h3⟩ := back_vals x ss
      refine ⟨rn, rd, re, fun v w h ht => ?_, ?_⟩
      · obtain ⟨a, cap, e, r⟩ := h
        rw [List.length_cons] at e
        have h : RowS w (.slice a (ss.length + 1) cap) (s :: ss) := ⟨a, cap, rfl, r⟩
        subst e
        exact cback_walk a s ss cap w ht x rn rd re h hK hsz' (fun W => qread s _ x W hx) h1 h2 h3
      · by_cases hall : ∀ t ∈ ss, goodS t
        · by_cases hb : (Cub.un (ss.map val)).2.1 < 10 ^ 600
          · obtain ⟨e1, e2, e3⟩ := h3 hall hb
            have hun := Cub.un_val (ss.map val)
            rw [hun.1, hun.2] at e1 e2 e3
            obtain ⟨b, n, rfl, k1, k2, k3⟩ := whole_isR hx
            by_cases hsm : Small (Cub.valQ b n 1 + Cub.valQ false (Cub.pr (ss.map val)).2 (Cub.pr (ss.map val)).1)
            · exact Or.inr ⟨s, ss, b, n, rfl, k3, k1, k2, hall, ⟨hsm, e1, e2⟩, by rw [e3]; exact errT_ok hsm⟩
            · refine Or.inl ?_
              rw [e3]
              unfold errT
              rw [if_neg hsm]
              decide
          · rw [(h2 hall hb).2.2]; exact Or.inl (by decide)
        · rw [(h1 hall).2.2]; exact Or.inl (by decide)
    · refine ⟨⟨#[]⟩, ⟨#[]⟩, 3, fun v w h _ => ?_, Or.inl (by decide)⟩
      obtain ⟨a, cap, e, r⟩ := h
      rw [List.length_cons] at e
      have h : RowS w (.slice a (ss.length + 1) cap) (s :: ss) := ⟨a, cap, rfl, r⟩
      subst e
      exact cback_no a s ss cap w h (fun W => read_no s _ W s1 s2 hr)
/-- The chain of what a list comes to is that list, where its last part is not 1. -/
theorem chain_back (num den : ByteArray) (b : Bool) (n : Nat) (ns : List Nat) (hb : b = true → n ≠ 0) (hp : ∀ t ∈ ns, 0 < t) (hlast : ∀ k, ns.getLast? = some k → k ≠ 1) (hq : IsR num den (Cub.valQ b n 1 + Cub.valQ false (Cub.pr ns).2 (Cub.pr ns).1)) (w : World) (ht : Tab w) :
    Calls Tryz.prog 57 #[.agg #[.string num, .string den]] w fun e w' => ∃ v, e = .returned (.tuple #[v, .int .i64 0]) ∧ RowS w' v (sx b n :: ns.map tx) ∧ Below w.heap.size w w' := by
  obtain ⟨h1, h2⟩ := Cub.EU.of_pr ns hp hlast
  obtain ⟨m, hl, e, _, e1, e2⟩ := Cub.whole_frac b n (Cub.pr ns).2 (Cub.pr ns).1 hb h1 (Cub.pr_gcd ns)
  rw [e] at hq
  obtain ⟨ts, hts, hc, _⟩ := chains_ok num den _ hq
  obtain ⟨f1, f2, f3⟩ := Cub.low_is hl
  rw [← f1, ← f2, ← f3] at hts
  have hh := hc w ht
  rw [← f1, ← f2, ← f3] at hh
  have g1 : floorN b m (Cub.pr ns).1 = n := e1
  have g2 : floorR b m (Cub.pr ns).1 = (Cub.pr ns).2 := e2
  rw [g2] at hts
  rw [g1, hts.det h2] at hh
  exact hh
end Go.Proofs.YtndhinoomlofgaaGreatDoor

namespace Go.Proofs.YtndhinoomlofgaaGreatDoor
open Go.RowKit

theorem one_val : Cub.valQ false 1 1 = 1 := by decide +kernel
/-- One more than a whole number is one. -/
theorem whole_succ (b : Bool) (n : Nat) (hb : b = true → n ≠ 0) : ∃ b' n', (b' = true → n' ≠ 0) ∧ n' ≤ n + 1 ∧ Cub.valQ b n 1 + Cub.valQ false 1 1 = Cub.valQ b' n' 1 := by
  cases b with
  | false =>
    refine ⟨false, n + 1, fun h => (by cases h), Nat.le_refl _, ?_⟩
    have := Cub.sum_val n 1 1 (by decide)
    rwa [Nat.mul_one] at this
  | true =>
    obtain ⟨k, rfl⟩ : ∃ k, n = k + 1 := ⟨n - 1, by have := hb rfl; omega⟩
    have key : Cub.valQ true (k + 1) 1 + Cub.valQ false 1 1 = Cub.valQ true k 1 := by
      have := Cub.valQ_add (b := true) (c := false) (bb := true) (n := k + 1) (d := 1) (k := 1) (e := 1) (m := k) (by decide) (by decide) (by
        simp only [Cub.sg, if_true]
        push_cast
        simp
        omega)
      exact this.symm
    by_cases h0 : k = 0
    · subst h0
      refine ⟨false, 0, fun h => (by cases h), by omega, ?_⟩
      rw [key, Cub.valQ_zero, Cub.valQ_zero]
    · exact ⟨true, k, fun _ => h0, by omega, key⟩
theorem isR_num {num den : ByteArray} {x : Rat} (h : IsR num den x) : num = numT x := h.2.1
theorem chain_one (rn rd s : ByteArray) (ss : List ByteArray) (b : Bool) (n K : Nat) (hs : s = sx b n) (hb : b = true → n ≠ 0) (hn : n < 10 ^ 600) (hall : ∀ t ∈ ss, goodS t)
    (hq : IsR rn rd (Cub.valQ b n 1 + Cub.valQ false (Cub.pr (ss.map val)).2 (Cub.pr (ss.map val)).1)) (hK : ss.length = K + 1) (hl : ss[K] = ⟨#[49]⟩) :
    ∃ z lc, IsR ((s :: ss)[K]'(by rw [List.length_cons]; omega)) ⟨#[49]⟩ z ∧ (∀ W, Tab W → Calls Tryz.prog 57 #[.agg #[.string rn, .string rd]] W fun e w' => ∃ v, e = .returned (.tuple #[v, .int .i64 0]) ∧ RowS w' v lc ∧ Below W.heap.size W w') ∧ (Small (z + 1) → lc = (s :: ss).take K ++ [numT (z + 1)]) := by
  have v1 : val (⟨#[49]⟩ : ByteArray) = 1 := by decide +kernel
  cases K with
  | zero =>
    obtain ⟨t, rfl⟩ : ∃ t, ss = [t] := List.length_eq_one_iff.1 hK
    simp only [List.getElem_cons_zero] at hl
    subst hl
    simp only [List.map_cons, List.map_nil, v1, Cub.pr, Nat.mul_one, Nat.add_zero] at hq
    obtain ⟨b', n', k1, k2, k3⟩ := whole_succ b n hb
    rw [k3] at hq
    have hn' : n' < 10 ^ 600 := by
      have h := hq.bd.1
      rw [← (Cub.low_is (b := b') (n := n') (d := 1) ⟨by decide, Nat.gcd_one_right _, k1⟩).2.1] at h
      exact h
    have hr := isR_whole b' n' hn' k1
    have hq2 : IsR rn rd (Cub.valQ b' n' 1 + Cub.valQ false (Cub.pr []).2 (Cub.pr []).1) := by
      have e : Cub.valQ b' n' 1 + Cub.valQ false (Cub.pr []).2 (Cub.pr []).1 = Cub.valQ b' n' 1 := by
        show Cub.valQ b' n' 1 + Cub.valQ false 0 1 = _
        rw [Cub.valQ_zero]; grind
      rw [e]; exact hq
    refine ⟨Cub.valQ b n 1, [sx b' n'], ?_, fun W ht => chain_back rn rd b' n' [] k1 (fun t h => by cases h) (fun k h => by cases h) hq2 W ht, fun _ => ?_⟩
    · simp only [List.getElem_cons_zero]
      rw [hs]; exact isR_whole b n hn hb
    · simp only [List.take_zero, List.nil_append]
      rw [← one_val, k3, ← isR_num hr]
  | succ j =>
    have hj : j < ss.length := by omega
    have hj1 : j + 1 < ss.length := by omega
    obtain ⟨u, hu⟩ : ∃ u, u = ss[j] := ⟨_, rfl⟩
    have hgu : goodS u := hall u (by rw [hu]; exact List.getElem_mem _)
    obtain ⟨ms, hms⟩ : ∃ ms, ms = ss.take j := ⟨_, rfl⟩
    have e1 : ss = ms ++ [u, ⟨#[49]⟩] := by
      rw [hms]
      conv => lhs; rw [← List.take_append_drop j ss]
      congr 1
      rw [List.drop_eq_getElem_cons hj, List.drop_eq_getElem_cons hj1, hl, ← hu, List.drop_of_length_le (by omega)]
    have hu0 := goodS_val hgu
    have e2 : ss.map val = ms.map val ++ [val u, 1] := by rw [e1, List.map_append]; simp [v1]
    rw [e2, Cub.pr_last] at hq
    have hpos : ∀ t ∈ ms.map val ++ [val u + 1], 0 < t := fun t h => by
      rcases List.mem_append.1 h with h | h
      · obtain ⟨x, hx, rfl⟩ := List.mem_map.1 h
        exact (goodS_val (hall x (by rw [e1]; exact List.mem_append_left _ hx))).1
      · rw [List.mem_singleton.1 h]; omega
    have hlast : ∀ k, (ms.map val ++ [val u + 1]).getLast? = some k → k ≠ 1 := fun k h => by
      rw [List.getLast?_append] at h
      simp at h
      omega
    have hz := isR_whole false (val u) hu0.2 (fun h => by cases h)
    refine ⟨Cub.valQ false (val u) 1, sx b n :: (ms.map val ++ [val u + 1]).map tx, ?_, fun W ht => chain_back rn rd b n _ hb hpos hlast hq W ht, fun hsm => ?_⟩
    · simp only [List.getElem_cons_succ]
      rw [← hu]
      have e : sx false (val u) = u := (goodS_tx hgu).symm
      rw [e] at hz
      exact hz
    · have e3 : Cub.valQ false (val u) 1 + 1 = Cub.valQ false (val u + 1) 1 := by
        rw [← one_val]
        have := Cub.sum_val (val u) 1 1 (by decide)
        rwa [Nat.mul_one] at this
      rw [e3] at hsm ⊢
      have hv : val u + 1 < 10 ^ 600 := by
        have h := hsm.1
        rw [← (Cub.low_is (b := false) (n := val u + 1) (d := 1) ⟨by decide, Nat.gcd_one_right _, fun h => by cases h⟩).2.1] at h
        exact h
      have hr := isR_whole false (val u + 1) hv (fun h => by cases h)
      rw [← isR_num hr, List.take_succ_cons, ← hms, List.map_append, map_val ms (fun x hx => hall x (by rw [e1]; exact List.mem_append_left _ hx)), hs]
      rfl
/-- A row of texts that a call owns, and its last text. -/
theorem own_last {W : World} {base K : Nat} {v : Value} {l : List ByteArray} (h : W.ownsRow base 9 1 v l.length (strsV l)) (hK : l.length = K + 1) :
    ∃ g cap, v = .slice (some ⟨g, 0, none⟩) (K + 1) cap ∧ base ≤ g ∧ g < W.heap.size ∧ W.cell? ⟨g, K, none⟩ = some (.string (l[K]'(by omega))) ∧ W.frozen? ⟨g, K, none⟩ = false ∧ K + 1 ≤ cap ∧ cap ≤ maxLen ∧
      ∀ (W' : World), Below W.heap.size W W' → ∀ t, RowS (W'.setCell ⟨g, K, none⟩ (.string t)) (.slice (some ⟨g, 0, none⟩) (K + 1) cap) (l.take K ++ [t]) := by
  obtain ⟨hx, h2⟩ := id h
  rcases h2 with ⟨e, h0⟩ | ⟨g, cap, cur, e, hb, hg, hcap, hmax, hsz, htk⟩
  · omega
  · subst e
    have hcell : ∀ i (hi : i < l.length), W.cell? ⟨g, i, none⟩ = some (.string l[i]) := fun i hi => by
      have := h.cells (g := g) rfl i (.string l[i]) (strsV_get l i hi)
      simpa [Addr.add_lit] using this
    have hglt : g < W.heap.size := (Array.getElem?_eq_some_iff.1 hg).1
    refine ⟨g, cap, by rw [hK], hb, hglt, hcell K (by omega), frozen_of_row W g K cur 9 hg, by omega, hmax, fun W' hB t => ?_⟩
    have hl : (l.take K ++ [t]).length = K + 1 := by rw [List.length_append, List.length_take, List.length_singleton]; omega
    have hc' : ∀ i (hi : i < l.length), W'.cell? ⟨g, i, none⟩ = some (.string l[i]) := fun i hi => (hB.cell (p := ⟨g, i, none⟩) hglt).trans (hcell i hi)
    refine ⟨_, cap, by rw [hl], by omega, hmax, fun e => (by cases e), fun i hi => ?_⟩
    have hsz2 := hB.size
    refine ⟨g, 0, rfl, by simp; omega, ?_⟩
    rw [Nat.zero_add]
    by_cases hik : i = K
    · subst hik
      rw [World.cell?_setCell_same _ _ _ (hc' i (by omega)), List.getElem_append_right (by rw [List.length_take]; omega)]
      simp
    · rw [World.cell?_setCell_other _ _ _ _ (by intro e; cases e; exact hik rfl), hc' i (by omega), List.getElem_append_left (by rw [List.length_take]; omega), List.getElem_take]
end Go.Proofs.YtndhinoomlofgaaGreatDoor
