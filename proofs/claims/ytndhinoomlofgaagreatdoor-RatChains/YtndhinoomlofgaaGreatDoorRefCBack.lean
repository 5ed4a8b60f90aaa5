/- The document's Back: the walk. -/
import Derived.Test.YtndhinoomlofgaaGreatDoorCBack
import Derived.Test.YtndhinoomlofgaaGreatDoorOrdA
namespace Go.Proofs.YtndhinoomlofgaaGreatDoor
open Go.RowKit

theorem goodS_tx {s : ByteArray} (h : goodS s) : s = tx (val s) := by
  obtain ⟨n, hn, rfl⟩ := tb_of h.1
  have e : val (tb n) = n := (tb_right n hn).2
  rw [e, tx_tb n hn]
/-- A part of a chain comes to no more. -/
theorem pr_up (t : Nat) (ts : List Nat) (ht : 0 < t) : (Cub.pr ts).1 ≤ (Cub.pr (t :: ts)).1 := by
  simp only [Cub.pr]
  have := Nat.le_mul_of_pos_left (Cub.pr ts).1 ht
  omega
theorem pr_drop (ns : List Nat) (h : ∀ n ∈ ns, 0 < n) : ∀ i, (Cub.pr (ns.drop i)).1 ≤ (Cub.pr ns).1
  | 0 => by simp
  | i + 1 => by
    refine Nat.le_trans ?_ (pr_drop ns h i)
    by_cases hi : i < ns.length
    · rw [List.drop_eq_getElem_cons hi]
      exact pr_up _ _ (h _ (List.getElem_mem _))
    · rw [List.drop_of_length_le (by omega), List.drop_of_length_le (by omega)]
      exact Nat.le_refl _
theorem pr_le (ns : List Nat) (h : ∀ n ∈ ns, 0 < n) : (Cub.pr ns).2 ≤ (Cub.pr ns).1 ∧ 0 < (Cub.pr ns).1 := by
  have g0 := Cub.un_val ns
  have g1 := (Cub.un_le ns h).1
  have g2 := Cub.un_mono [] ns h
  rw [List.nil_append] at g2
  rw [← g0.1, ← g0.2]
  exact ⟨g1, Nat.lt_of_lt_of_le (by decide) g2⟩
theorem tx_long (E m : Nat) (hE : E = 600) : (600 : Int) < ((tx m).size : Int) ↔ ¬ m < 10 ^ E := by
  have h := Cub.dec_len_lt m E (by omega)
  rw [← h, ← list_len]
  show (600 : Int) < ((Lib.decDigits m).length : Int) ↔ _
  omega

set_option maxRecDepth 100000 in
set_option maxHeartbeats 4000000 in
theorem refCBack_walk (a : Option Addr) (s : ByteArray) (ss : List ByteArray) (cap : Nat) (w : World) (x : Rat) (xb : Bool) (xn xd rn rd : ByteArray) (re : Int)
    (hrow : RowS w (.slice a (ss.length + 1) cap) (s :: ss)) (hK : ss.length + 1 ≤ 8796093022208) (hsz : ∀ t ∈ ss, t.size ≤ maxLen) (hfx : fx x = .agg #[.bool xb, .string xn, .string xd]) (hbd : Bd 600 x)
    (h20 : ∀ W, Calls Tryz.prog 20 #[.agg #[.string s, .string ⟨#[49]⟩]] W fun r w' => r = .returned (.bool true) ∧ Below W.heap.size W w')
    (h64 : ∀ W, Calls Tryz.prog 64 #[.agg #[.string s, .string ⟨#[49]⟩]] W fun r w' => r = .returned (.agg #[.bool xb, .string xn, .string xd]) ∧ Below W.heap.size W w')
    (hbad : ¬ (∀ t ∈ ss, goodS t) → rn = ⟨#[]⟩ ∧ rd = ⟨#[]⟩ ∧ re = 3)
    (hno : (∀ t ∈ ss, goodS t) → ¬ (Cub.un (ss.map val)).2.1 < 10 ^ 600 → rn = ⟨#[]⟩ ∧ rd = ⟨#[]⟩ ∧ re = 7)
    (hok : (∀ t ∈ ss, goodS t) → (Cub.un (ss.map val)).2.1 < 10 ^ 600 → rn = numT (x + Cub.valQ false (Cub.un (ss.map val)).1.1 (Cub.un (ss.map val)).2.1) ∧ rd = denT (x + Cub.valQ false (Cub.un (ss.map val)).1.1 (Cub.un (ss.map val)).2.1) ∧ re = errT (x + Cub.valQ false (Cub.un (ss.map val)).1.1 (Cub.un (ss.map val)).2.1)) :
    Ans 60 #[.slice a (ss.length + 1) cap] w rn rd re := by
  have H76 := hide (fun W => refToldQ 600 x W (by omega) (by omega) hbd)
  unfold Ans at H76
  rw [hfx] at H76
  unfold Ans
  obtain ⟨V, hV⟩ : ∃ V, V = w.alloc (.cells #[.string ⟨#[]⟩, .string ⟨#[]⟩] 23) := ⟨_, rfl⟩
  have HS0 : Hid (T2 V w.heap.size (.string ⟨#[]⟩) (.string ⟨#[]⟩) ∧ Below w.heap.size w V) := by rw [hV]; exact ⟨⟨by simp [go_sem], by simp [go_sem], by simp [go_sem], by simp [go_sem]⟩, alT_below _ _⟩
  have HV := hide hV
  obtain ⟨E, hE⟩ : ∃ E : Nat, E = 600 := ⟨_, rfl⟩
  have HE := hide hE
  obtain ⟨a', cap', ee, hcap, hmax, _, hcells⟩ := hrow
  simp only [Value.slice.injEq] at ee
  obtain ⟨rfl, _, rfl⟩ := ee
  obtain ⟨b0, o0, rfl, hlt0, hc0⟩ := hcells 0 (by simp)
  simp only [List.length_cons] at hcap hcells
  simp only [Nat.add_zero, List.getElem_cons_zero] at hc0
  have HCE : Hid (∀ i (h : i < ss.length), w.cell? ⟨b0, o0 + 1 + i, none⟩ = some (.string ss[i]) ∧ b0 < w.heap.size) := fun i h => by
    obtain ⟨b, o, e, hl, hc⟩ := hcells (i + 1) (by omega)
    simp only [Option.some.injEq, Addr.mk.injEq, and_true] at e
    obtain ⟨rfl, rfl⟩ := e
    rw [List.getElem_cons_succ, ← Nat.add_assoc, Nat.add_right_comm] at hc
    exact ⟨hc, hl⟩
  have HC0 : Hid (∀ W, Below w.heap.size w W → W.cell? ⟨b0, o0, none⟩ = some (.string s)) := fun W hb => (hb.cell (p := ⟨b0, o0, none⟩) hlt0).trans hc0
  have HBAD := hide hbad; have HNO := hide hno; have HOK := hide hok; have HSZ := hide hsz; have H20 := hide h20; have H64 := hide h64
  have HFX := hide (And.intro hfx hbd)
  obtain ⟨K, hKe⟩ : ∃ K, K = ss.length := ⟨_, rfl⟩
  have HKL := hide hKe
  rw [← hKe] at hcap hK ⊢
  clear hcells hc0 hlt0 hbad hno hok hKe hsz h20 h64 hfx hbd hE
  have hz2 : (((K : Int) + 1) == 0) = false := by rw [beq_eq_false_iff_ne]; omega
  have hp1 : (0 : Int) < (K : Int) + 1 := by omega
  have hp2 : (1 : Int) ≤ (K : Int) + 1 := by omega
  have hp3 : (K : Int) + 1 ≤ (cap : Int) := by omega
  go_enter Tryz.func60, Tryz.ntmps60
  go_upto_region 1 with fail
  rw [← unhide HV]
  clear hV HV
  have t0 := unhide HC0 V (unhide HS0).2
  go_upto_region 3 with (go_at_call 20; go_must (refine (unhide H20 _).mono ?_; rintro e w1 ⟨rfl, hb1⟩; have HS1 : Hid (T2 w1 w.heap.size (.string ⟨#[]⟩) (.string ⟨#[]⟩) ∧ Below w.heap.size w w1) := ⟨(unhide HS0).1.later hb1, (unhide HS0).2.trans (hb1.mono (unhide HS0).2.size)⟩; clear hb1 t0))
  clear HS0
  by_cases hc1 : cap = 1
  · have HK0 : Hid (K = 0) := by show K = 0; omega
    subst hc1
    have hl3 : ¬ (1 : Int) < (K : Int) + 1 := by have := unhide HK0; omega
    go_upto_region 4 with fail
    go_loopw [25] (fun t wr => ∃ k : Nat, k ≤ 0 ∧ t = .int .i64 (k : Int) ∧ Hid (∀ j (h : j < ss.length), j < k → goodS ss[j]) ∧ Hid (T2 wr w.heap.size (.string ⟨#[]⟩) (.string ⟨#[]⟩) ∧ Below w.heap.size w wr)) (fun t _ => 0 - (intOf t).toNat)
    case atStart => exact ⟨0, Nat.zero_le _, rfl, (fun j _ h => absurd h (Nat.not_lt_zero _)), HS1⟩
    case round =>
      clear HS1
      obtain ⟨k, hk, rfl, HA, HS⟩ := hrel
      by_cases hkn : k < 0
      · exact absurd hkn (Nat.not_lt_zero _)
      · have HKK : Hid (k = K) := by show k = K; have := unhide HK0; omega
        have hkI : ¬ (k : Int) < (0 : Int) := by omega
        have HALL : Hid (∀ t ∈ ss, goodS t) := fun t ht => by
          obtain ⟨j, hj, rfl⟩ := List.getElem_of_mem ht
          exact unhide HA j hj (by have := unhide HKK; have := unhide HKL; omega)
        have HPO : Hid (∀ n ∈ ss.map val, 0 < n) := fun n hn => by
          obtain ⟨t, ht, rfl⟩ := List.mem_map.1 hn
          exact (goodS_val (unhide HALL t ht)).1
        have t0 := unhide HC0 wr (unhide HS).2
        clear HA HKK
        go_upto_region 10 with (go_at_call 64; go_must (refine (unhide H64 _).mono ?_; rintro e w8 ⟨rfl, hb8⟩; have HS8 : Hid (T2 w8 w.heap.size (.string ⟨#[]⟩) (.string ⟨#[]⟩) ∧ Below w.heap.size w w8) := ⟨(unhide HS).1.later hb8, (unhide HS).2.trans (hb8.mono (unhide HS).2.size)⟩; clear hb8 t0))
        obtain ⟨V9, hV9⟩ : ∃ V9, V9 = w8.alloc (.cells #[.bool xb, .string xn, .string xd] 61) := ⟨_, rfl⟩
        have HS9 : Hid (T2 V9 w.heap.size (.string ⟨#[]⟩) (.string ⟨#[]⟩) ∧ Below w.heap.size w V9) := by
          have hb : Below w8.heap.size w8 V9 := by rw [hV9]; exact alT_below _ _
          exact ⟨(unhide HS8).1.later hb, (unhide HS8).2.trans (hb.mono (unhide HS8).2.size)⟩
        have HF9 : Hid (FBox V9 w8.heap.size (.bool xb) (.string xn) (.string xd)) := by rw [hV9]; exact ⟨by simp [go_sem], by simp [go_sem], by simp [go_sem], by simp [go_sem], by simp [go_sem], by simp [go_sem]⟩
        rw [← hV9]
        clear hV9 HS HS8 hkI hk hkn
        generalize w8.heap.size = gf at *
        have hk1 : (((K : Int) + 1) == 1) = true := by rw [unhide HK0]; rfl
        have HR3 : Hid (rn = numT x ∧ rd = denT x ∧ re = errT x) := by
          have h0 : ss = [] := List.length_eq_zero_iff.1 (by have := unhide HKL; have := unhide HK0; omega)
          have h := unhide HOK (unhide HALL)
          rw [h0] at h
          have e : x + Cub.valQ false (Cub.un (List.map val [])).1.1 (Cub.un (List.map val [])).2.1 = x := by
            show x + Cub.valQ false 0 1 = x
            rw [Cub.valQ_zero]; grind
          rw [e] at h
          have h9 : (1 : Nat) < 10 ^ E := Nat.one_lt_pow (by have := unhide HE; omega) (by decide)
          rw [unhide HE] at h9
          exact h h9
        have p0 := (unhide HF9).c0; have p1 := (unhide HF9).c1; have p2 := (unhide HF9).c2
        go_wp2_with (go_at_call 76; go_must (refine (unhide H76 _).mono ?_; rintro e wb ⟨rfl, hbb⟩; have HSB : Hid (T2 wb w.heap.size (.string ⟨#[]⟩) (.string ⟨#[]⟩) ∧ Below w.heap.size w wb) := ⟨(unhide HS9).1.later hbb, (unhide HS9).2.trans (hbb.mono (unhide HS9).2.size)⟩; clear hbb p0 p1 p2; have r0 := (unhide HSB).1.c0; have r1 := (unhide HSB).1.c1; have rf0 := (unhide HSB).1.f0; have rf1 := (unhide HSB).1.f1))
        obtain ⟨e1, e2, e3⟩ := unhide HR3
        have hS := (unhide HSB).1.store (.string rn) (.string rd)
        have hb := below_store2 (unhide HSB).2 (Nat.le_refl _) (.string rn) (.string rd)
        have v0 := hS.c0; have v1 := hS.c1
        rw [← e1, ← e2, ← e3]
        exact bodyPost_ret (v := .tuple #[.agg #[.string rn, .string rd], .int .i64 re]) (w := store2 wb w.heap.size (.string rn) (.string rd)) (by simp [results, Tryz.results60, go_sem, v0, v1]) rfl ⟨rfl, hb⟩
  · have hc2 : ¬ (cap : Int) = 1 := by omega
    go_upto_region 4 with fail
    go_loopw [25] (fun t wr => ∃ k : Nat, k ≤ K ∧ t = .int .i64 (k : Int) ∧ Hid (∀ j (h : j < ss.length), j < k → goodS ss[j]) ∧ Hid (T2 wr w.heap.size (.string ⟨#[]⟩) (.string ⟨#[]⟩) ∧ Below w.heap.size w wr)) (fun t _ => K - (intOf t).toNat)
    case atStart => exact ⟨0, Nat.zero_le _, rfl, (fun j _ h => absurd h (Nat.not_lt_zero _)), HS1⟩
    case round =>
      clear HS1
      obtain ⟨k, hk, rfl, HA, HS⟩ := hrel
      by_cases hkn : k < K
      · have hkl : k < ss.length := by have := unhide HKL; omega
        have hkI : (k : Int) < (K : Int) := by omega
        have hk0 : (0 : Int) ≤ (k : Int) := by omega
        obtain ⟨t, ht⟩ : ∃ t, t = ss[k] := ⟨_, rfl⟩
        have c1 : wr.cell? ⟨b0, o0 + 1 + k, none⟩ = some (.string t) := by
          obtain ⟨e1, e2⟩ := unhide HCE k hkl
          rw [(unhide HS).2.cell (p := ⟨b0, o0 + 1 + k, none⟩) e2, e1, ht]
        have HTM : Hid (t ∈ ss) := by rw [ht]; exact List.getElem_mem _
        have H75 := hide (fun W => refRight_any t W (unhide HSZ t (unhide HTM)))
        by_cases hr : Cub.rightB t.data.toList = true
        · rw [hr] at H75
          by_cases hz : (t.toList == [48]) = true
          · have HB3 := hide (unhide HBAD (fun h => by have h1 := (h t (unhide HTM)).2; rw [hz] at h1; cases h1))
            have r0 := (unhide HS).1.c0; have r1 := (unhide HS).1.c1; have rf0 := (unhide HS).1.f0; have rf1 := (unhide HS).1.f1
            clear ht
            go_wp2_with (go_at_call 75; go_must (refine (unhide H75 _).mono ?_; rintro e w8 ⟨rfl, rfl⟩))
            have hS := (unhide HS).1.store (.string ⟨#[]⟩) (.string ⟨#[]⟩)
            have hb := below_store2 (unhide HS).2 (Nat.le_refl _) (.string ⟨#[]⟩) (.string ⟨#[]⟩)
            have v0 := hS.c0; have v1 := hS.c1
            obtain ⟨e1, e2, e3⟩ := unhide HB3
            rw [e1, e2, e3]
            exact bodyPost_ret (v := .tuple #[.agg #[.string ⟨#[]⟩, .string ⟨#[]⟩], .int .i64 3]) (w := store2 _ w.heap.size (.string ⟨#[]⟩) (.string ⟨#[]⟩)) (by simp [results, Tryz.results60, go_sem, v0, v1]) rfl ⟨rfl, hb⟩
          · have hz' : (t.toList == [48]) = false := by simpa using hz
            have HG : Hid (goodS t) := ⟨hr, hz'⟩
            clear hz hr
            have HA2 : Hid (∀ j (h : j < ss.length), j < k + 1 → goodS ss[j]) := fun j h h2 => by
              by_cases e : j = k
              · subst e; rw [← ht]; exact unhide HG
              · exact unhide HA j h (by omega)
            clear ht
            go_wp2_with (go_at_call 75; go_must (refine (unhide H75 _).mono ?_; rintro e w8 ⟨rfl, rfl⟩))
            go_roundw
            case rel => exact ⟨k + 1, by omega, by go_num, HA2, HS⟩
            case measure => simp [intOf]; omega
        · have hr' : Cub.rightB t.data.toList = false := by simpa using hr
          have HB3 := hide (unhide HBAD (fun h => hr (h t (unhide HTM)).1))
          rw [hr'] at H75
          have r0 := (unhide HS).1.c0; have r1 := (unhide HS).1.c1; have rf0 := (unhide HS).1.f0; have rf1 := (unhide HS).1.f1
          clear ht hr hr'
          go_wp2_with (go_at_call 75; go_must (refine (unhide H75 _).mono ?_; rintro e w8 ⟨rfl, rfl⟩))
          have hS := (unhide HS).1.store (.string ⟨#[]⟩) (.string ⟨#[]⟩)
          have hb := below_store2 (unhide HS).2 (Nat.le_refl _) (.string ⟨#[]⟩) (.string ⟨#[]⟩)
          have v0 := hS.c0; have v1 := hS.c1
          obtain ⟨e1, e2, e3⟩ := unhide HB3
          rw [e1, e2, e3]
          exact bodyPost_ret (v := .tuple #[.agg #[.string ⟨#[]⟩, .string ⟨#[]⟩], .int .i64 3]) (w := store2 _ w.heap.size (.string ⟨#[]⟩) (.string ⟨#[]⟩)) (by simp [results, Tryz.results60, go_sem, v0, v1]) rfl ⟨rfl, hb⟩
      · have HKK : Hid (k = K) := by show k = K; omega
        have hkI : ¬ (k : Int) < (K : Int) := by omega
        have HALL : Hid (∀ t ∈ ss, goodS t) := fun t ht => by
          obtain ⟨j, hj, rfl⟩ := List.getElem_of_mem ht
          exact unhide HA j hj (by have := unhide HKK; have := unhide HKL; omega)
        have HPO : Hid (∀ n ∈ ss.map val, 0 < n) := fun n hn => by
          obtain ⟨t, ht, rfl⟩ := List.mem_map.1 hn
          exact (goodS_val (unhide HALL t ht)).1
        have t0 := unhide HC0 wr (unhide HS).2
        clear HA HKK
        go_upto_region 10 with (go_at_call 64; go_must (refine (unhide H64 _).mono ?_; rintro e w8 ⟨rfl, hb8⟩; have HS8 : Hid (T2 w8 w.heap.size (.string ⟨#[]⟩) (.string ⟨#[]⟩) ∧ Below w.heap.size w w8) := ⟨(unhide HS).1.later hb8, (unhide HS).2.trans (hb8.mono (unhide HS).2.size)⟩; clear hb8 t0))
        obtain ⟨V9, hV9⟩ : ∃ V9, V9 = w8.alloc (.cells #[.bool xb, .string xn, .string xd] 61) := ⟨_, rfl⟩
        have HS9 : Hid (T2 V9 w.heap.size (.string ⟨#[]⟩) (.string ⟨#[]⟩) ∧ Below w.heap.size w V9) := by
          have hb : Below w8.heap.size w8 V9 := by rw [hV9]; exact alT_below _ _
          exact ⟨(unhide HS8).1.later hb, (unhide HS8).2.trans (hb.mono (unhide HS8).2.size)⟩
        have HF9 : Hid (FBox V9 w8.heap.size (.bool xb) (.string xn) (.string xd)) := by rw [hV9]; exact ⟨by simp [go_sem], by simp [go_sem], by simp [go_sem], by simp [go_sem], by simp [go_sem], by simp [go_sem]⟩
        rw [← hV9]
        clear hV9 HS HS8 hkI hk hkn
        generalize w8.heap.size = gf at *
        by_cases hK0 : K = 0
        · have HK0 := hide hK0
          clear hK0
          have hk1 : (((K : Int) + 1) == 1) = true := by rw [unhide HK0]; rfl
          have HR3 : Hid (rn = numT x ∧ rd = denT x ∧ re = errT x) := by
            have h0 : ss = [] := List.length_eq_zero_iff.1 (by have := unhide HKL; have := unhide HK0; omega)
            have h := unhide HOK (unhide HALL)
            rw [h0] at h
            have e : x + Cub.valQ false (Cub.un (List.map val [])).1.1 (Cub.un (List.map val [])).2.1 = x := by
              show x + Cub.valQ false 0 1 = x
              rw [Cub.valQ_zero]; grind
            rw [e] at h
            have h9 : (1 : Nat) < 10 ^ E := Nat.one_lt_pow (by have := unhide HE; omega) (by decide)
            rw [unhide HE] at h9
            exact h h9
          have p0 := (unhide HF9).c0; have p1 := (unhide HF9).c1; have p2 := (unhide HF9).c2
          go_wp2_with (go_at_call 76; go_must (refine (unhide H76 _).mono ?_; rintro e wb ⟨rfl, hbb⟩; have HSB : Hid (T2 wb w.heap.size (.string ⟨#[]⟩) (.string ⟨#[]⟩) ∧ Below w.heap.size w wb) := ⟨(unhide HS9).1.later hbb, (unhide HS9).2.trans (hbb.mono (unhide HS9).2.size)⟩; clear hbb p0 p1 p2; have r0 := (unhide HSB).1.c0; have r1 := (unhide HSB).1.c1; have rf0 := (unhide HSB).1.f0; have rf1 := (unhide HSB).1.f1))
          obtain ⟨e1, e2, e3⟩ := unhide HR3
          have hS := (unhide HSB).1.store (.string rn) (.string rd)
          have hb := below_store2 (unhide HSB).2 (Nat.le_refl _) (.string rn) (.string rd)
          have v0 := hS.c0; have v1 := hS.c1
          rw [← e1, ← e2, ← e3]
          exact bodyPost_ret (v := .tuple #[.agg #[.string rn, .string rd], .int .i64 re]) (w := store2 wb w.heap.size (.string rn) (.string rd)) (by simp [results, Tryz.results60, go_sem, v0, v1]) rfl ⟨rfl, hb⟩
        · have HKP : Hid (0 < K) := by show 0 < K; omega
          have hk1 : (((K : Int) + 1) == 1) = false := by rw [beq_eq_false_iff_ne]; omega
          obtain ⟨t, ht⟩ : ∃ t, t = ss[K - 1]'(by have := unhide HKL; have := unhide HKP; omega) := ⟨_, rfl⟩
          have c1 : V9.cell? ⟨b0, o0 + K, none⟩ = some (.string t) := by
            obtain ⟨e1, e2⟩ := unhide HCE (K - 1) (by have := unhide HKL; have := unhide HKP; omega)
            rw [show o0 + K = o0 + 1 + (K - 1) by have := unhide HKP; omega, (unhide HS9).2.cell (p := ⟨b0, o0 + 1 + (K - 1), none⟩) e2, e1, ht]
          have HT0 : Hid (t = tx (Cub.pr ((ss.map val).drop (K - 1))).1 ∧ (⟨#[49]⟩ : ByteArray) = tx (Cub.pr ((ss.map val).drop (K - 1))).2 ∧ (Cub.pr ((ss.map val).drop (K - 1))).1 < 10 ^ E) := by
            have hl : K - 1 < (ss.map val).length := by rw [List.length_map]; have := unhide HKL; have := unhide HKP; omega
            have hg : goodS t := unhide HALL t (by rw [ht]; exact List.getElem_mem _)
            have e1 : (ss.map val).drop (K - 1) = [val t] := by
              rw [List.drop_eq_getElem_cons hl, List.getElem_map, ← ht, List.drop_of_length_le (by rw [List.length_map]; have := unhide HKL; omega)]
            rw [e1]
            simp only [Cub.pr, Nat.mul_one, Nat.add_zero]
            refine ⟨goodS_tx hg, by decide +kernel, ?_⟩
            rw [unhide HE]; exact (goodS_val hg).2
          have hk2 : (K : Int) < (K : Int) + 1 := by omega
          have hk3 : (0 : Int) ≤ (K : Int) := by omega
          clear ht
          go_upto_region 14 with fail
          rw [(unhide HT0).1, (unhide HT0).2.1]
          clear c1
          go_loopw [7, 8, 9] (fun sn sd si wr => ∃ i : Nat, i + 1 ≤ K ∧ sn = .string (tx (Cub.pr ((ss.map val).drop i)).1) ∧ sd = .string (tx (Cub.pr ((ss.map val).drop i)).2) ∧ si = .int .i64 (i : Int) ∧ Hid ((Cub.pr ((ss.map val).drop i)).1 < 10 ^ E) ∧ Hid (T2 wr w.heap.size (.string ⟨#[]⟩) (.string ⟨#[]⟩) ∧ Below w.heap.size w wr) ∧ Hid (FBox wr gf (.bool xb) (.string xn) (.string xd))) (fun _ _ si _ => (intOf si).toNat)
          case atStart => exact ⟨K - 1, by have := unhide HKP; omega, rfl, rfl, by congr 1; have := unhide HKP; omega, (unhide HT0).2.2, HS9, HF9⟩
          case round =>
            clear HT0 HS9 HF9
            obtain ⟨i, hi, rfl, rfl, rfl, HPB, HS, HF⟩ := hrel
            by_cases hi0 : 0 < i
            · have hl : i - 1 < (ss.map val).length := by rw [List.length_map]; have := unhide HKL; omega
              have hl' : i - 1 < ss.length := by have := unhide HKL; omega
              have e1 : (ss.map val).drop (i - 1) = val ss[i - 1] :: (ss.map val).drop i := by
                rw [List.drop_eq_getElem_cons hl, List.getElem_map, show i - 1 + 1 = i by omega]
              obtain ⟨t, ht⟩ : ∃ t, t = ss[i - 1] := ⟨_, rfl⟩
              have HG : Hid (goodS t) := unhide HALL t (by rw [ht]; exact List.getElem_mem _)
              have c1 : wr.cell? ⟨b0, o0 + i, none⟩ = some (.string (tx (val t))) := by
                obtain ⟨f1, f2⟩ := unhide HCE (i - 1) hl'
                rw [show o0 + i = o0 + 1 + (i - 1) by omega, (unhide HS).2.cell (p := ⟨b0, o0 + 1 + (i - 1), none⟩) f2, f1, ← ht, ← goodS_tx (unhide HG)]
              rw [← ht] at e1
              have HDR := hide e1
              obtain ⟨P1, hP1⟩ : ∃ P1, P1 = (Cub.pr ((ss.map val).drop i)).1 := ⟨_, rfl⟩
              obtain ⟨P2, hP2⟩ : ∃ P2, P2 = (Cub.pr ((ss.map val).drop i)).2 := ⟨_, rfl⟩
              have HP2 : Hid (P2 < 10 ^ E) := by
                have h := (pr_le ((ss.map val).drop i) (fun n hn => unhide HPO n (List.mem_of_mem_drop hn))).1
                rw [hP2]; exact Nat.lt_of_le_of_lt h (unhide HPB)
              have HN1 : Hid ((Cub.pr ((ss.map val).drop (i - 1))).1 = val t * P1 + P2 ∧ (Cub.pr ((ss.map val).drop (i - 1))).2 = P1) := by
                rw [unhide HDR, hP1, hP2]; exact ⟨rfl, rfl⟩
              rw [← hP1] at HPB
              rw [← hP1, ← hP2]
              have HVT : Hid (val t < 10 ^ E) := by rw [unhide HE]; exact (goodS_val (unhide HG)).2
              have HTI := hide (fun W => refTimesM E (val t) P1 W (by have := unhide HE; omega) (by have := unhide HE; omega) (unhide HVT) (unhide HPB))
              have HPL := hide (fun W => refPlusM (E + E) (val t * P1) P2 W (by have := unhide HE; omega) (by have := unhide HE; omega) (pow_two E _ _ (unhide HVT) (unhide HPB)) (pow_up (unhide HP2) (by omega)))
              obtain ⟨m, hm⟩ : ∃ m, m = val t * P1 + P2 := ⟨_, rfl⟩
              rw [← hm] at HPL HN1
              obtain ⟨q, hq⟩ : ∃ q, q = val t * P1 := ⟨_, rfl⟩
              rw [← hq] at HPL HTI
              have HLG := hide (tx_long E m (unhide HE))
              have hiI : (0 : Int) < (i : Int) := by omega
              have hiK : (i : Int) < (K : Int) + 1 := by omega
              have hi1 : (0 : Int) ≤ (i : Int) := by omega
              clear hl hl' e1 ht hP1 hP2 HDR HVT HG hm hq
              by_cases hbg : m < 10 ^ E
              · have hsm : ¬ (600 : Int) < ((tx m).size : Int) := fun h => (unhide HLG).1 h hbg
                have HBG := hide hbg
                clear hbg
                go_wp2_with (first
                  | (go_at_call 125; go_must (refine (unhide HTI _).mono ?_; rintro e wt ⟨rfl, hbt⟩; have HSt : Hid (T2 wt w.heap.size (.string ⟨#[]⟩) (.string ⟨#[]⟩) ∧ Below w.heap.size w wt) := ⟨(unhide HS).1.later hbt, (unhide HS).2.trans (hbt.mono (unhide HS).2.size)⟩; have HFt := hide ((unhide HF).later hbt); clear hbt c1))
                  | (go_at_call 122; go_must (refine (unhide HPL _).mono ?_; rintro e wu ⟨rfl, hbu⟩; have HSu : Hid (T2 wu w.heap.size (.string ⟨#[]⟩) (.string ⟨#[]⟩) ∧ Below w.heap.size w wu) := ⟨(unhide HSt).1.later hbu, (unhide HSt).2.trans (hbu.mono (unhide HSt).2.size)⟩; have HFu := hide ((unhide HFt).later hbu); clear hbu)))
                go_roundw
                case rel =>
                  refine ⟨i - 1, by omega, ?_, ?_, by go_num, ?_, HSu, HFu⟩
                  · rw [(unhide HN1).1]
                  · rw [(unhide HN1).2]
                  · rw [(unhide HN1).1]; exact unhide HBG
                case measure => simp [intOf]; omega
              · have hsm : (600 : Int) < ((tx m).size : Int) := (unhide HLG).2 hbg
                have HB3 : Hid (rn = ⟨#[]⟩ ∧ rd = ⟨#[]⟩ ∧ re = 7) := unhide HNO (unhide HALL) (fun h => by
                  rw [(Cub.un_val (ss.map val)).2, ← unhide HE] at h
                  have h2 := pr_drop (ss.map val) (unhide HPO) (i - 1)
                  rw [(unhide HN1).1] at h2
                  exact hbg (Nat.lt_of_le_of_lt h2 h))
                clear hbg
                go_wp2_with (first
                  | (go_at_call 125; go_must (refine (unhide HTI _).mono ?_; rintro e wt ⟨rfl, hbt⟩; have HSt : Hid (T2 wt w.heap.size (.string ⟨#[]⟩) (.string ⟨#[]⟩) ∧ Below w.heap.size w wt) := ⟨(unhide HS).1.later hbt, (unhide HS).2.trans (hbt.mono (unhide HS).2.size)⟩; clear hbt c1))
                  | (go_at_call 122; go_must (refine (unhide HPL _).mono ?_; rintro e wu ⟨rfl, hbu⟩; have HSu : Hid (T2 wu w.heap.size (.string ⟨#[]⟩) (.string ⟨#[]⟩) ∧ Below w.heap.size w wu) := ⟨(unhide HSt).1.later hbu, (unhide HSt).2.trans (hbu.mono (unhide HSt).2.size)⟩; clear hbu; have r0 := (unhide HSu).1.c0; have r1 := (unhide HSu).1.c1; have rf0 := (unhide HSu).1.f0; have rf1 := (unhide HSu).1.f1)))
                have hS := (unhide HSu).1.store (.string ⟨#[]⟩) (.string ⟨#[]⟩)
                have hb := below_store2 (unhide HSu).2 (Nat.le_refl _) (.string ⟨#[]⟩) (.string ⟨#[]⟩)
                have v0 := hS.c0; have v1 := hS.c1
                obtain ⟨e1, e2, e3⟩ := unhide HB3
                rw [e1, e2, e3]
                exact bodyPost_ret (v := .tuple #[.agg #[.string ⟨#[]⟩, .string ⟨#[]⟩], .int .i64 7]) (w := store2 wu w.heap.size (.string ⟨#[]⟩) (.string ⟨#[]⟩)) (by simp [results, Tryz.results60, go_sem, v0, v1]) rfl ⟨rfl, hb⟩
            · have hi00 : i = 0 := by omega
              subst hi00
              have hiI : ¬ (0 : Int) < ((0 : Nat) : Int) := by omega
              rw [List.drop_zero] at HPB
              simp only [List.drop_zero]
              have HR3 := hide (unhide HOK (unhide HALL) (by rw [(Cub.un_val (ss.map val)).2, ← unhide HE]; exact unhide HPB))
              rw [(Cub.un_val (ss.map val)).1, (Cub.un_val (ss.map val)).2] at HR3
              have hle := pr_le (ss.map val) (unhide HPO)
              have HLW : Hid (Cub.Low false (Cub.pr (ss.map val)).2 (Cub.pr (ss.map val)).1) := ⟨hle.2, by rw [Nat.gcd_comm]; exact Cub.pr_gcd _, fun h => by cases h⟩
              obtain ⟨Y, hY⟩ : ∃ Y, Y = Cub.valQ false (Cub.pr (ss.map val)).2 (Cub.pr (ss.map val)).1 := ⟨_, rfl⟩
              have HBY : Hid (Bd E Y) := by
                obtain ⟨_, f2, f3⟩ := Cub.low_is (unhide HLW)
                rw [← hY] at f2 f3
                exact ⟨by rw [← f2]; exact Nat.lt_of_le_of_lt hle.1 (unhide HPB), by rw [← f3]; exact unhide HPB⟩
              have HBX : Hid (Bd E x) := by have := (unhide HFX).2; rw [unhide HE]; exact this
              have H63 : Hid (∀ W, Calls Tryz.prog 63 #[.agg #[.bool xb, .string xn, .string xd], .agg #[.bool false, .string (tx (Cub.pr (ss.map val)).2), .string (tx (Cub.pr (ss.map val)).1)]] W fun e w' => e = .returned (fx (x + Y)) ∧ Below W.heap.size W w') := fun W => by
                rw [fx_of (unhide HLW), ← hY, ← (unhide HFX).1]
                exact refFPlus E x Y W (by have := unhide HE; omega) (by have := unhide HE; omega) (unhide HBX) (unhide HBY)
              have H76b := hide (fun W => refToldQ (E + E + 1) (x + Y) W (by omega) (by have := unhide HE; omega) (bd_add (unhide HBX) (unhide HBY)))
              unfold Ans at H76b
              rw [← hY] at HR3
              generalize fx (x + Y) = FXY at *
              clear hle hY HBY HBX HLW HPB
              generalize (Cub.pr (ss.map val)).1 = P1 at *
              generalize (Cub.pr (ss.map val)).2 = P2 at *
              have p0 := (unhide HF).c0; have p1 := (unhide HF).c1; have p2 := (unhide HF).c2
              go_wp2_with (first
                | (go_at_call 63; go_must (refine (unhide H63 _).mono ?_; rintro e wt ⟨rfl, hbt⟩; have HSt : Hid (T2 wt w.heap.size (.string ⟨#[]⟩) (.string ⟨#[]⟩) ∧ Below w.heap.size w wt) := ⟨(unhide HS).1.later hbt, (unhide HS).2.trans (hbt.mono (unhide HS).2.size)⟩; clear hbt p0 p1 p2))
                | (go_at_call 76; go_must (refine (unhide H76b _).mono ?_; rintro e wb ⟨rfl, hbb⟩; have HSB : Hid (T2 wb w.heap.size (.string ⟨#[]⟩) (.string ⟨#[]⟩) ∧ Below w.heap.size w wb) := ⟨(unhide HSt).1.later hbb, (unhide HSt).2.trans (hbb.mono (unhide HSt).2.size)⟩; clear hbb; have r0 := (unhide HSB).1.c0; have r1 := (unhide HSB).1.c1; have rf0 := (unhide HSB).1.f0; have rf1 := (unhide HSB).1.f1)))
              obtain ⟨e1, e2, e3⟩ := unhide HR3
              have hS := (unhide HSB).1.store (.string rn) (.string rd)
              have hb := below_store2 (unhide HSB).2 (Nat.le_refl _) (.string rn) (.string rd)
              have v0 := hS.c0; have v1 := hS.c1
              rw [← e1, ← e2, ← e3]
              exact bodyPost_ret (v := .tuple #[.agg #[.string rn, .string rd], .int .i64 re]) (w := store2 wb w.heap.size (.string rn) (.string rd)) (by simp [results, Tryz.results60, go_sem, v0, v1]) rfl ⟨rfl, hb⟩
end Go.Proofs.YtndhinoomlofgaaGreatDoor
