/- RatChains: the law whole. -/
import Derived.Test.YtndhinoomlofgaaGreatDoorRefCBack
import Derived.Test.YtndhinoomlofgaaGreatDoorPairs
import Derived.Test.YtndhinoomlofgaaGreatDoorUnfoldNo
import Derived.Test.YtndhinoomlofgaaGreatDoorNew
namespace Go.Proofs.YtndhinoomlofgaaGreatDoor
open Go.RowKit

set_option maxRecDepth 100000 in
set_option maxHeartbeats 2000000 in
theorem cback_nil (a : Option Addr) (cap : Nat) (w : World) : Ans 59 #[.slice a 0 cap] w ⟨#[]⟩ ⟨#[]⟩ 3 := by
  unfold Ans
  obtain ⟨V, hV⟩ : ∃ V, V = w.alloc (.cells #[.string ⟨#[]⟩, .string ⟨#[]⟩] 23) := ⟨_, rfl⟩
  have HS0 : Hid (T2 V w.heap.size (.string ⟨#[]⟩) (.string ⟨#[]⟩) ∧ Below w.heap.size w V) := by rw [hV]; exact ⟨⟨by simp [go_sem], by simp [go_sem], by simp [go_sem], by simp [go_sem]⟩, alT_below _ _⟩
  have HV := hide hV
  go_enter Tryz.func59, Tryz.ntmps59
  go_upto_region 1 with fail
  rw [← unhide HV]
  clear hV HV
  have r0 := (unhide HS0).1.c0; have r1 := (unhide HS0).1.c1; have rf0 := (unhide HS0).1.f0; have rf1 := (unhide HS0).1.f1
  go_wp2_with fail
  have hS := (unhide HS0).1.store (.string ⟨#[]⟩) (.string ⟨#[]⟩)
  have hb := below_store2 (unhide HS0).2 (Nat.le_refl _) (.string ⟨#[]⟩) (.string ⟨#[]⟩)
  have v0 := hS.c0; have v1 := hS.c1
  exact bodyPost_ret (v := .tuple #[.agg #[.string ⟨#[]⟩, .string ⟨#[]⟩], .int .i64 3]) (w := store2 V w.heap.size (.string ⟨#[]⟩) (.string ⟨#[]⟩)) (by simp [results, Tryz.results59, go_sem, v0, v1]) rfl ⟨rfl, hb⟩

set_option maxRecDepth 100000 in
set_option maxHeartbeats 2000000 in
theorem refCBack_nil (a : Option Addr) (cap : Nat) (w : World) : Ans 60 #[.slice a 0 cap] w ⟨#[]⟩ ⟨#[]⟩ 3 := by
  unfold Ans
  obtain ⟨V, hV⟩ : ∃ V, V = w.alloc (.cells #[.string ⟨#[]⟩, .string ⟨#[]⟩] 23) := ⟨_, rfl⟩
  have HS0 : Hid (T2 V w.heap.size (.string ⟨#[]⟩) (.string ⟨#[]⟩) ∧ Below w.heap.size w V) := by rw [hV]; exact ⟨⟨by simp [go_sem], by simp [go_sem], by simp [go_sem], by simp [go_sem]⟩, alT_below _ _⟩
  have HV := hide hV
  go_enter Tryz.func60, Tryz.ntmps60
  go_upto_region 1 with fail
  rw [← unhide HV]
  clear hV HV
  have r0 := (unhide HS0).1.c0; have r1 := (unhide HS0).1.c1; have rf0 := (unhide HS0).1.f0; have rf1 := (unhide HS0).1.f1
  go_wp2_with fail
  have hS := (unhide HS0).1.store (.string ⟨#[]⟩) (.string ⟨#[]⟩)
  have hb := below_store2 (unhide HS0).2 (Nat.le_refl _) (.string ⟨#[]⟩) (.string ⟨#[]⟩)
  have v0 := hS.c0; have v1 := hS.c1
  exact bodyPost_ret (v := .tuple #[.agg #[.string ⟨#[]⟩, .string ⟨#[]⟩], .int .i64 3]) (w := store2 V w.heap.size (.string ⟨#[]⟩) (.string ⟨#[]⟩)) (by simp [results, Tryz.results60, go_sem, v0, v1]) rfl ⟨rfl, hb⟩

set_option maxRecDepth 100000 in
set_option maxHeartbeats 2000000 in
theorem cback_no (a : Option Addr) (s : ByteArray) (ss : List ByteArray) (cap : Nat) (w : World) (hrow : RowS w (.slice a (ss.length + 1) cap) (s :: ss)) (h : ∀ W, Calls Tryz.prog 78 #[.agg #[.string s, .string ⟨#[49]⟩]] W fun r w' => r = .returned (.tuple #[zeroF, .bool false]) ∧ Below W.heap.size W w') : Ans 59 #[.slice a (ss.length + 1) cap] w ⟨#[]⟩ ⟨#[]⟩ 3 := by
  unfold zeroF at h
  unfold Ans
  obtain ⟨V, hV⟩ : ∃ V, V = w.alloc (.cells #[.string ⟨#[]⟩, .string ⟨#[]⟩] 23) := ⟨_, rfl⟩
  have HS0 : Hid (T2 V w.heap.size (.string ⟨#[]⟩) (.string ⟨#[]⟩) ∧ Below w.heap.size w V) := by rw [hV]; exact ⟨⟨by simp [go_sem], by simp [go_sem], by simp [go_sem], by simp [go_sem]⟩, alT_below _ _⟩
  have HV := hide hV
  obtain ⟨a', cap', ee, hcap, hmax, _, hcells⟩ := hrow
  simp only [Value.slice.injEq] at ee
  obtain ⟨rfl, _, rfl⟩ := ee
  obtain ⟨b0, o0, rfl, hlt0, hc0⟩ := hcells 0 (by simp)
  simp only [Nat.add_zero, List.getElem_cons_zero] at hc0
  have HC0 : Hid (∀ W, Below w.heap.size w W → W.cell? ⟨b0, o0, none⟩ = some (.string s)) := fun W hb => (hb.cell (p := ⟨b0, o0, none⟩) hlt0).trans hc0
  have H := hide h
  clear hcells hc0 hlt0 h hcap
  generalize ss.length = K at *
  have hz2 : (((K : Int) + 1) == 0) = false := by rw [beq_eq_false_iff_ne]; omega
  have hp1 : (0 : Int) < (K : Int) + 1 := by omega
  go_enter Tryz.func59, Tryz.ntmps59
  go_upto_region 3 with fail
  rw [← unhide HV]
  clear hV HV
  have t0 := unhide HC0 V (unhide HS0).2
  go_upto_region 4 with (go_at_call 78; go_must (refine (unhide H _).mono ?_; rintro e w1 ⟨rfl, hb1⟩; have HS1 : Hid (T2 w1 w.heap.size (.string ⟨#[]⟩) (.string ⟨#[]⟩) ∧ Below w.heap.size w w1) := ⟨(unhide HS0).1.later hb1, (unhide HS0).2.trans (hb1.mono (unhide HS0).2.size)⟩; clear hb1 t0))
  obtain ⟨V2, hV2⟩ : ∃ V2, V2 = w1.alloc (.cells #[.bool false, .slice none 0 0, .slice none 0 0] 74) := ⟨_, rfl⟩
  have HS2 : Hid (T2 V2 w.heap.size (.string ⟨#[]⟩) (.string ⟨#[]⟩) ∧ Below w.heap.size w V2) := by
    have hb : Below w1.heap.size w1 V2 := by rw [hV2]; exact alT_below _ _
    exact ⟨(unhide HS1).1.later hb, (unhide HS1).2.trans (hb.mono (unhide HS1).2.size)⟩
  rw [← hV2]
  clear hV2
  have r0 := (unhide HS2).1.c0; have r1 := (unhide HS2).1.c1; have rf0 := (unhide HS2).1.f0; have rf1 := (unhide HS2).1.f1
  go_wp2_with fail
  have hS := (unhide HS2).1.store (.string ⟨#[]⟩) (.string ⟨#[]⟩)
  have hb := below_store2 (unhide HS2).2 (Nat.le_refl _) (.string ⟨#[]⟩) (.string ⟨#[]⟩)
  have v0 := hS.c0; have v1 := hS.c1
  exact bodyPost_ret (v := .tuple #[.agg #[.string ⟨#[]⟩, .string ⟨#[]⟩], .int .i64 3]) (w := store2 V2 w.heap.size (.string ⟨#[]⟩) (.string ⟨#[]⟩)) (by simp [results, Tryz.results59, go_sem, v0, v1]) rfl ⟨rfl, hb⟩

set_option maxRecDepth 100000 in
set_option maxHeartbeats 2000000 in
theorem refCBack_no (a : Option Addr) (s : ByteArray) (ss : List ByteArray) (cap : Nat) (w : World) (hrow : RowS w (.slice a (ss.length + 1) cap) (s :: ss)) (h : ∀ W, Calls Tryz.prog 20 #[.agg #[.string s, .string ⟨#[49]⟩]] W fun r w' => r = .returned (.bool false) ∧ Below W.heap.size W w') : Ans 60 #[.slice a (ss.length + 1) cap] w ⟨#[]⟩ ⟨#[]⟩ 3 := by
  unfold Ans
  obtain ⟨V, hV⟩ : ∃ V, V = w.alloc (.cells #[.string ⟨#[]⟩, .string ⟨#[]⟩] 23) := ⟨_, rfl⟩
  have HS0 : Hid (T2 V w.heap.size (.string ⟨#[]⟩) (.string ⟨#[]⟩) ∧ Below w.heap.size w V) := by rw [hV]; exact ⟨⟨by simp [go_sem], by simp [go_sem], by simp [go_sem], by simp [go_sem]⟩, alT_below _ _⟩
  have HV := hide hV
  obtain ⟨a', cap', ee, hcap, hmax, _, hcells⟩ := hrow
  simp only [Value.slice.injEq] at ee
  obtain ⟨rfl, _, rfl⟩ := ee
  obtain ⟨b0, o0, rfl, hlt0, hc0⟩ := hcells 0 (by simp)
  simp only [Nat.add_zero, List.getElem_cons_zero] at hc0
  have HC0 : Hid (∀ W, Below w.heap.size w W → W.cell? ⟨b0, o0, none⟩ = some (.string s)) := fun W hb => (hb.cell (p := ⟨b0, o0, none⟩) hlt0).trans hc0
  have H := hide h
  clear hcells hc0 hlt0 h hcap
  generalize ss.length = K at *
  have hz2 : (((K : Int) + 1) == 0) = false := by rw [beq_eq_false_iff_ne]; omega
  have hp1 : (0 : Int) < (K : Int) + 1 := by omega
  go_enter Tryz.func60, Tryz.ntmps60
  go_upto_region 1 with fail
  rw [← unhide HV]
  clear hV HV
  have t0 := unhide HC0 V (unhide HS0).2
  go_upto_region 2 with (go_at_call 20; go_must (refine (unhide H _).mono ?_; rintro e w1 ⟨rfl, hb1⟩; have HS1 : Hid (T2 w1 w.heap.size (.string ⟨#[]⟩) (.string ⟨#[]⟩) ∧ Below w.heap.size w w1) := ⟨(unhide HS0).1.later hb1, (unhide HS0).2.trans (hb1.mono (unhide HS0).2.size)⟩; clear hb1 t0))
  have r0 := (unhide HS1).1.c0; have r1 := (unhide HS1).1.c1; have rf0 := (unhide HS1).1.f0; have rf1 := (unhide HS1).1.f1
  go_wp2_with fail
  have hS := (unhide HS1).1.store (.string ⟨#[]⟩) (.string ⟨#[]⟩)
  have hb := below_store2 (unhide HS1).2 (Nat.le_refl _) (.string ⟨#[]⟩) (.string ⟨#[]⟩)
  have v0 := hS.c0; have v1 := hS.c1
  exact bodyPost_ret (v := .tuple #[.agg #[.string ⟨#[]⟩, .string ⟨#[]⟩], .int .i64 3]) (w := store2 w1 w.heap.size (.string ⟨#[]⟩) (.string ⟨#[]⟩)) (by simp [results, Tryz.results60, go_sem, v0, v1]) rfl ⟨rfl, hb⟩

/-- What Back answers of a list whose first text is a whole number. -/
theorem back_vals (x : Rat) (ss : List ByteArray) : ∃ (rn rd : ByteArray) (re : Int), (¬ (∀ t ∈ ss, goodS t) → rn = ⟨#[]⟩ ∧ rd = ⟨#[]⟩ ∧ re = 3) ∧
    ((∀ t ∈ ss, goodS t) → ¬ (Cub.un (ss.map val)).2.1 < 10 ^ 600 → rn = ⟨#[]⟩ ∧ rd = ⟨#[]⟩ ∧ re = 7) ∧
    ((∀ t ∈ ss, goodS t) → (Cub.un (ss.map val)).2.1 < 10 ^ 600 → rn = numT (x + Cub.valQ false (Cub.un (ss.map val)).1.1 (Cub.un (ss.map val)).2.1) ∧ rd = denT (x + Cub.valQ false (Cub.un (ss.map val)).1.1 (Cub.un (ss.map val)).2.1) ∧ re = errT (x + Cub.valQ false (Cub.un (ss.map val)).1.1 (Cub.un (ss.map val)).2.1)) := by
  by_cases h : ∀ t ∈ ss, goodS t
  · by_cases h2 : (Cub.un (ss.map val)).2.1 < 10 ^ 600
    · exact ⟨_, _, _, fun k => absurd h k, fun _ k => absurd h2 k, fun _ _ => ⟨rfl, rfl, rfl⟩⟩
    · exact ⟨_, _, _, fun k => absurd h k, fun _ _ => ⟨rfl, rfl, rfl⟩, fun _ k => absurd k h2⟩
  · exact ⟨_, _, _, fun _ => ⟨rfl, rfl, rfl⟩, fun k => absurd k h, fun k => absurd k h⟩
theorem both_cback (L : List ByteArray) (hK : L.length ≤ 8796093022208) (hsz : ∀ t ∈ L, t.size ≤ maxLen) : ∃ (rn rd : ByteArray) (re : Int), ∀ (v : Value) (w : World), RowS w v L → (Tab w → Ans 59 #[v] w rn rd re) ∧ Ans 60 #[v] w rn rd re := by
  cases L with
  | nil =>
    refine ⟨⟨#[]⟩, ⟨#[]⟩, 3, fun v w h => ?_⟩
    obtain ⟨a, cap, rfl, _⟩ := h
    exact ⟨fun _ => cback_nil a cap w, refCBack_nil a cap w⟩
  | cons s ss =>
    have s1 : s.size ≤ maxLen := hsz s (by simp)
    have s2 : (⟨#[49]⟩ : ByteArray).size ≤ maxLen := by unfold maxLen; decide
    have hsz' : ∀ t ∈ ss, t.size ≤ maxLen := fun t ht => hsz t (by simp [ht])
    simp only [List.length_cons] at hK
    by_cases hr : RightT s ⟨#[49]⟩
    · obtain ⟨x, hx⟩ := (right_isR _ _).1 hr
      obtain ⟨rn, rd, re, h1, h2, h3⟩ := back_vals x ss
      refine ⟨rn, rd, re, fun v w h => ?_⟩
      obtain ⟨a, cap, e, r⟩ := h
      rw [List.length_cons] at e
      have h : RowS w (.slice a (ss.length + 1) cap) (s :: ss) := ⟨a, cap, rfl, r⟩
      subst e
      exact ⟨fun ht => cback_walk a s ss cap w ht x rn rd re h hK hsz' (fun W => qread s _ x W hx) h1 h2 h3, refCBack_walk a s ss cap w x _ _ _ rn rd re h hK hsz' rfl hx.bd (ref18_yes hx) (fun W => refRead s _ x W hx) h1 h2 h3⟩
    · obtain ⟨p, hp, h18⟩ := ref18_any s ⟨#[49]⟩ s1 s2
      have : p = false := by cases p with
        | false => rfl
        | true => exact absurd (hp.1 rfl) hr
      subst this
      refine ⟨⟨#[]⟩, ⟨#[]⟩, 3, fun v w h => ?_⟩
      obtain ⟨a, cap, e, r⟩ := h
      rw [List.length_cons] at e
      have h : RowS w (.slice a (ss.length + 1) cap) (s :: ss) := ⟨a, cap, rfl, r⟩
      subst e
      exact ⟨fun _ => cback_no a s ss cap w h (fun W => read_no s _ W s1 s2 hr), refCBack_no a s ss cap w h h18⟩
end Go.Proofs.YtndhinoomlofgaaGreatDoor

namespace Go.Proofs.YtndhinoomlofgaaGreatDoor
open Go.RowKit

set_option maxRecDepth 100000 in
set_option maxHeartbeats 2000000 in
theorem law_chains (n1 d1 : ByteArray) (v : Value) (L : List ByteArray) (w : World) (htab : Tab w) (s1 : n1.size ≤ maxLen) (s2 : d1.size ≤ maxLen) (hrow : RowS w v L) (hK : L.length ≤ 8796093022208) (hsz : ∀ t ∈ L, t.size ≤ maxLen) :
    Calls Tryz.prog 10 #[.agg #[.string n1, .string d1], v] w fun r w' => r = .returned (.bool true) ∧ Below w.heap.size w w' := by
  obtain ⟨cl, ce, hc1, hc2⟩ := both_chain n1 d1 s1 s2
  obtain ⟨rn, rd, re, hb⟩ := both_cback L hK hsz
  have HC1 := hide hc1; have HC2 := hide hc2; have HBK := hide hb
  have HROW := hide hrow
  have HTW := hide htab
  have HAW := hide (fun W (hb : Below w.heap.size w W) => awake_any W (htab.later hb))
  obtain ⟨V, hV⟩ : ∃ V, V = w.alloc (.cells #[.string n1, .string d1] 23) := ⟨_, rfl⟩
  have HS0 : Hid (T2 V w.heap.size (.string n1) (.string d1) ∧ Below w.heap.size w V) := by rw [hV]; exact ⟨⟨by simp [go_sem], by simp [go_sem], by simp [go_sem], by simp [go_sem]⟩, alT_below _ _⟩
  have HV := hide hV
  clear hrow
  clear hc1 hc2 hb htab s1 s2 hK hsz
  go_enter Tryz.func10, Tryz.ntmps10
  go_upto_region 1 with fail
  rw [← unhide HV]
  clear hV HV
  have t0 := (unhide HS0).1.c0; have t1 := (unhide HS0).1.c1
  go_upto_region 2 with (go_at_call 57; go_must (refine (unhide HC1 _ ((unhide HTW).later (unhide HS0).2)).mono ?_; rintro e w1 ⟨vc, rfl, hrc, hb1⟩; obtain ⟨ac, cc, rfl, hrc'⟩ := hrc; have HS1 : Hid (T2 w1 w.heap.size (.string n1) (.string d1) ∧ RowS w1 (.slice ac cl.length cc) cl ∧ Below w.heap.size w w1) := ⟨(unhide HS0).1.later hb1, ⟨ac, cc, rfl, hrc'⟩, (unhide HS0).2.trans (hb1.mono (unhide HS0).2.size)⟩; clear hb1 hrc' t0 t1; have t0 := (unhide HS1).1.c0; have t1 := (unhide HS1).1.c1))
  go_upto_region 3 with (go_at_call 58; go_must (refine (unhide HC2 _).mono ?_; rintro e w2 ⟨vd, rfl, hrd, hb2⟩; obtain ⟨ad, cd, rfl, hrd'⟩ := hrd; have HS2 : Hid (RowS w2 (.slice ac cl.length cc) cl ∧ RowS w2 (.slice ad cl.length cd) cl ∧ Below w.heap.size w w2) := ⟨(unhide HS1).2.1.later hb2, ⟨ad, cd, rfl, hrd'⟩, (unhide HS1).2.2.trans (hb2.mono (unhide HS1).2.2.size)⟩; clear hb2 hrd' t0 t1))
  have HP := hide ((unhide HBK) _ w2 ((unhide HROW).later (unhide HS2).2.2)).1
  unfold Ans at HP
  go_upto_region 4 with (go_at_call 59; go_must (refine (unhide HP ((unhide HTW).later (unhide HS2).2.2)).mono ?_; rintro e w3 ⟨rfl, hb3⟩; have HS3 : Hid (RowS w3 (.slice ac cl.length cc) cl ∧ RowS w3 (.slice ad cl.length cd) cl ∧ Below w.heap.size w w3) := ⟨(unhide HS2).1.later hb3, (unhide HS2).2.1.later hb3, (unhide HS2).2.2.trans (hb3.mono (unhide HS2).2.2.size)⟩; clear hb3))
  obtain ⟨V4, hV4⟩ : ∃ V4, V4 = w3.alloc (.cells #[.string rn, .string rd] 23) := ⟨_, rfl⟩
  have HS4 : Hid (RowS V4 (.slice ac cl.length cc) cl ∧ RowS V4 (.slice ad cl.length cd) cl ∧ Below w.heap.size w V4) := by
    have hb : Below w3.heap.size w3 V4 := by rw [hV4]; exact alT_below _ _
    exact ⟨(unhide HS3).1.later hb, (unhide HS3).2.1.later hb, (unhide HS3).2.2.trans (hb.mono (unhide HS3).2.2.size)⟩
  have HB4 : Hid (T2 V4 w3.heap.size (.string rn) (.string rd)) := by rw [hV4]; exact ⟨by simp [go_sem], by simp [go_sem], by simp [go_sem], by simp [go_sem]⟩
  rw [← hV4]
  clear hV4 HS0 HS1 HS2 HS3 HP
  generalize w3.heap.size = g7 at *
  have HQ := hide ((unhide HBK) _ V4 ((unhide HROW).later (unhide HS4).2.2)).2
  unfold Ans at HQ
  go_upto_region 5 with (go_at_call 60; go_must (refine (unhide HQ).mono ?_; rintro e w5 ⟨rfl, hb5⟩; have HS5 : Hid (RowS w5 (.slice ac cl.length cc) cl ∧ RowS w5 (.slice ad cl.length cd) cl ∧ Below w.heap.size w w5) := ⟨(unhide HS4).1.later hb5, (unhide HS4).2.1.later hb5, (unhide HS4).2.2.trans (hb5.mono (unhide HS4).2.2.size)⟩; have HB5 := hide ((unhide HB4).later hb5); clear hb5))
  obtain ⟨V6, hV6⟩ : ∃ V6, V6 = w5.alloc (.cells #[.string rn, .string rd] 23) := ⟨_, rfl⟩
  have HS6 : Hid (RowS V6 (.slice ac cl.length cc) cl ∧ RowS V6 (.slice ad cl.length cd) cl ∧ Below w.heap.size w V6 ∧ T2 V6 g7 (.string rn) (.string rd)) := by
    have hb : Below w5.heap.size w5 V6 := by rw [hV6]; exact alT_below _ _
    exact ⟨(unhide HS5).1.later hb, (unhide HS5).2.1.later hb, (unhide HS5).2.2.trans (hb.mono (unhide HS5).2.2.size), (unhide HB5).later hb⟩
  have HB6 : Hid (T2 V6 w5.heap.size (.string rn) (.string rd)) := by rw [hV6]; exact ⟨by simp [go_sem], by simp [go_sem], by simp [go_sem], by simp [go_sem]⟩
  rw [← hV6]
  clear hV6 HS4 HB4 HS5 HB5 HQ HBK
  generalize w5.heap.size = g9 at *
  have HT := hide (texts_any _ _ cl cl V6 (unhide HS6).1 (unhide HS6).2.1)
  rw [decide_eq_true (rfl : cl = cl)] at HT
  go_wp2_with (first
    | (go_at_call 61; go_must (refine (unhide HT).mono ?_; rintro e w7 ⟨rfl, hb7⟩; have HS7 : Hid (T2 w7 g7 (.string rn) (.string rd) ∧ T2 w7 g9 (.string rn) (.string rd) ∧ Below w.heap.size w w7) := ⟨(unhide HS6).2.2.2.later hb7, (unhide HB6).later hb7, (unhide HS6).2.2.1.trans (hb7.mono (unhide HS6).2.2.1.size)⟩; clear hb7; have q0 := (unhide HS7).1.c0; have q1 := (unhide HS7).1.c1; have q2 := (unhide HS7).2.1.c0; have q3 := (unhide HS7).2.1.c1))
    | (go_at_call 23; go_must (refine (unhide HAW _ (unhide HS7).2.2).mono ?_; rintro e w9 ⟨rfl, hb9⟩; have HE := hide ((unhide HS7).2.2.trans (hb9.mono (unhide HS7).2.2.size)); clear hb9)))
  go_ret
  exact ⟨by simp, unhide HE⟩
end Go.Proofs.YtndhinoomlofgaaGreatDoor
