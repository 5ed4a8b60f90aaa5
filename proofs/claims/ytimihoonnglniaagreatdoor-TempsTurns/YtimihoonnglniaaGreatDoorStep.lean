/- temps.Step where its number and its words are right. -/
import Derived.Test.YtimihoonnglniaaGreatDoorReadU
namespace Go.Proofs.YtimihoonnglniaaGreatDoor
open Go.RowKit
theorem fq_ne : ∀ j, fq j ≠ 0
  | 0 => by decide +kernel
  | 1 => by decide +kernel
  | 2 => by decide +kernel
  | n + 3 => by show (1 : Rat) ≠ 0; decide +kernel
theorem cmp_neg {p : Rat} (h : p < 0) : Cub.cmpQ p 0 < 0 := by unfold Cub.cmpQ; rw [if_pos h]; decide
theorem cmp_neg_inv {p : Rat} (h : Cub.cmpQ p 0 < 0) : p < 0 := by
  unfold Cub.cmpQ at h
  split at h
  · assumption
  · split at h <;> omega
set_option maxRecDepth 100000 in
set_option maxHeartbeats 8000000 in
theorem to_below (n d s t : ByteArray) (x : Rat) (i j : Nat) (w : World) (hx : IsR n d x) (hi : IsFirst (scB s) (i : Int)) (hj : IsFirst (scB t) (j : Int)) (hk : x * fq i + oq i < 0) (htab : Tab w) :
    Calls Tryz.prog 6 #[.agg #[.string n, .string d], .string s, .string t] w fun r w' => r = .returned (.tuple #[.agg #[.string ⟨#[]⟩, .string ⟨#[]⟩], .int .i64 9]) ∧ Below w.heap.size w w' := by
  obtain ⟨V, hV⟩ : ∃ V, V = (w.alloc (.cells #[.string n, .string d] 23)).alloc (.cells #[.string ⟨#[]⟩, .string ⟨#[]⟩] 23) := ⟨_, rfl⟩
  have HN : Hid (T2 V w.heap.size (.string n) (.string d)) := by rw [hV]; exact ⟨by simp [go_sem], by simp [go_sem], by simp [go_sem], by simp [go_sem]⟩
  have HR : Hid (T2 V (w.heap.size + 1) (.string ⟨#[]⟩) (.string ⟨#[]⟩)) := by rw [hV]; exact ⟨by simp [go_sem], by simp [go_sem], by simp [go_sem], by simp [go_sem]⟩
  have HB : Hid (Below w.heap.size w V) := by rw [hV]; exact ((Below.refl _ _).alloc (Nat.le_refl _) _).alloc (by simp) _
  have HV := hide hV
  have HTW := hide htab
  have HRU := hide (fun W hb => readU_ok n d s t x i j W hx hi hj (htab.later hb))
  have HSG : Hid (Cub.cmpQ (x * fq i + oq i) 0 < 0) := cmp_neg hk
  have HF0 := hide (fq_ne j)
  clear hV htab hx hi hj hk
  go_enter Tryz.func6, Tryz.ntmps6
  go_upto_region 1 with fail
  rw [← unhide HV]
  clear HV
  have t0 := (unhide HN).c0; have t1 := (unhide HN).c1
  go_upto_region 2 with (go_at_call 19; go_must (refine (unhide HRU _ (unhide HB)).mono ?_; rintro e w1 ⟨bz, bp, bq, br, bv, az, dz, ap, dp, aq, dq, ar, dr, av, dv, lz, cz, mz, ez, lp, cp, mp, ep, lq, cq, mq, eq, lr, cr, mr, er, lv, cv, mv, ev, rfl, hq1, hb1⟩; have HQ1 := hide hq1; have HB1 := hide hb1; clear hq1 hb1 t0 t1))
  obtain ⟨A, hA⟩ : ∃ A, A = ((w1.alloc (.cells #[.bool bz, .slice az lz cz, .slice dz mz ez] 45)).alloc (.cells #[.bool bp, .slice ap lp cp, .slice dp mp ep, .bool bq, .slice aq lq cq, .slice dq mq eq] 47)).alloc (.cells #[.bool br, .slice ar lr cr, .slice dr mr er, .bool bv, .slice av lv cv, .slice dv mv ev] 47) := ⟨_, rfl⟩
  have HZA : Hid (FBox A w1.heap.size (.bool bz) (.slice az lz cz) (.slice dz mz ez)) := by rw [hA]; exact ⟨by simp [go_sem], by simp [go_sem], by simp [go_sem], by simp [go_sem], by simp [go_sem], by simp [go_sem]⟩
  have HPA : Hid (T6 A (w1.heap.size + 1) (.bool bp) (.slice ap lp cp) (.slice dp mp ep) (.bool bq) (.slice aq lq cq) (.slice dq mq eq)) := by rw [hA]; exact ⟨by simp [go_sem], by simp [go_sem], by simp [go_sem], by simp [go_sem], by simp [go_sem], by simp [go_sem], by simp [go_sem], by simp [go_sem], by simp [go_sem], by simp [go_sem], by simp [go_sem], by simp [go_sem]⟩
  have HTA : Hid (T6 A (w1.heap.size + 2) (.bool br) (.slice ar lr cr) (.slice dr mr er) (.bool bv) (.slice av lv cv) (.slice dv mv ev)) := by rw [hA]; exact ⟨by simp [go_sem], by simp [go_sem], by simp [go_sem], by simp [go_sem], by simp [go_sem], by simp [go_sem], by simp [go_sem], by simp [go_sem], by simp [go_sem], by simp [go_sem], by simp [go_sem], by simp [go_sem]⟩
  have HBA1 : Hid (Below w1.heap.size w1 A) := by rw [hA]; exact (((Below.refl _ _).alloc (Nat.le_refl _) _).alloc (by simp) _).alloc (by simp; omega) _
  rw [← hA]
  clear hA
  have HBA : Hid (Below V.heap.size V A) := (unhide HB1).trans ((unhide HBA1).mono (unhide HB1).size)
  have HQA := hide (And.intro ((unhide HQ1).1.later (unhide HBA1)) (And.intro ((unhide HQ1).2.1.later (unhide HBA1)) (And.intro ((unhide HQ1).2.2.1.later (unhide HBA1)) (And.intro ((unhide HQ1).2.2.2.1.later (unhide HBA1)) ((unhide HQ1).2.2.2.2.later (unhide HBA1))))))
  have HRA := hide ((unhide HR).later (unhide HBA))
  have HBW : Hid (Below w.heap.size w A) := (unhide HB).trans ((unhide HBA).mono (unhide HB).size)
  clear HQ1 HB1 HBA1 HBA
  generalize w1.heap.size = g8 at *
  have p0 := (unhide HPA).c0; have p1 := (unhide HPA).c1; have p2 := (unhide HPA).c2; have p3 := (unhide HPA).c3; have p4 := (unhide HPA).c4; have p5 := (unhide HPA).c5
  have r0 := (unhide HTA).c0; have r1 := (unhide HTA).c1; have r2 := (unhide HTA).c2; have r3 := (unhide HTA).c3; have r4 := (unhide HTA).c4; have r5 := (unhide HTA).c5
  go_upto_region 4 with fail
  go_region_held3 (fun w' => w'.cell? ⟨g8 + 1, 0, none⟩ = some (.bool bp) ∧ w'.cell? ⟨g8 + 1, 1, none⟩ = some (.slice ap lp cp) ∧ w'.cell? ⟨g8 + 1, 2, none⟩ = some (.slice dp mp ep) ∧ w'.cell? ⟨g8 + 1, 3, none⟩ = some (.bool bq) ∧ w'.cell? ⟨g8 + 1, 4, none⟩ = some (.slice aq lq cq) ∧ w'.cell? ⟨g8 + 1, 5, none⟩ = some (.slice dq mq eq) ∧ w'.cell? ⟨g8 + 2, 0, none⟩ = some (.bool br) ∧ w'.cell? ⟨g8 + 2, 1, none⟩ = some (.slice ar lr cr) ∧ w'.cell? ⟨g8 + 2, 2, none⟩ = some (.slice dr mr er) ∧ w'.cell? ⟨g8 + 2, 3, none⟩ = some (.bool bv) ∧ w'.cell? ⟨g8 + 2, 4, none⟩ = some (.slice av lv cv) ∧ w'.cell? ⟨g8 + 2, 5, none⟩ = some (.slice dv mv ev)) (first | assumption | (simp [go_sem, *]; done)) (fail)
  all_goals
    clear p0 p1 p2 p3 p4 p5 r0 r1 r2 r3 r4 r5
    have z0 := (unhide HZA).c0; have z1 := (unhide HZA).c1; have z2 := (unhide HZA).c2
    have HAD : Hid (Below A.heap.size A A.drew) := (Below.refl _ _).drew
    have HKE := hide (kelvins_any (.agg #[.bool bp, .slice ap lp cp, .slice dp mp ep]) (.agg #[.bool bq, .slice aq lq cq, .slice dq mq eq]) (.agg #[.bool bz, .slice az lz cz, .slice dz mz ez]) (fq i) (oq i) x 67 A.drew bp bq bz ap dp aq dq az dz lp cp mp ep lq cq mq eq lz cz mz ez rfl rfl rfl ((unhide HQA).2.1.later (unhide HAD)) ((unhide HQA).2.2.1.later (unhide HAD)) ((unhide HQA).1.later (unhide HAD)) (by omega))
    go_upto_region 6 with (go_at_call 20; go_must (refine (unhide HKE).mono ?_; rintro e w2 ⟨v2, rfl, hv2, hb2⟩; obtain ⟨bk, ak, lk, ck, dk, mk, ek, rfl⟩ := hv2.form; have HV2 := hide hv2; have HB2 : Hid (Below A.heap.size A w2) := (unhide HAD).trans (hb2.mono (unhide HAD).size); clear hv2 hb2 z0 z1 z2))
    obtain ⟨B, hB⟩ : ∃ B, B = w2.alloc (.cells #[.bool bk, .slice ak lk ck, .slice dk mk ek] 45) := ⟨_, rfl⟩
    have HMB : Hid (FBox B w2.heap.size (.bool bk) (.slice ak lk ck) (.slice dk mk ek)) := by rw [hB]; exact ⟨by simp [go_sem], by simp [go_sem], by simp [go_sem], by simp [go_sem], by simp [go_sem], by simp [go_sem]⟩
    have HBB2 : Hid (Below w2.heap.size w2 B) := by rw [hB]; exact (Below.refl _ _).alloc (Nat.le_refl _) _
    rw [← hB]
    clear hB
    have HBB : Hid (Below A.heap.size A B) := (unhide HB2).trans ((unhide HBB2).mono (unhide HB2).size)
    have HVB := hide ((unhide HV2).later (unhide HBB2))
    have HRB := hide ((unhide HRA).later (unhide HBB))
    have HBWB : Hid (Below w.heap.size w B) := (unhide HBW).trans ((unhide HBB).mono (unhide HBW).size)
    have HSI := hide (qsign (.agg #[.bool bk, .slice ak lk ck, .slice dk mk ek]) _ _ B (unhide HVB))
    clear HB2 HBB2 HV2
    generalize w2.heap.size = g14 at *
    generalize Cub.cmpQ (x * fq i + oq i) 0 = sg at HSI HSG
    have m0 := (unhide HMB).c0; have m1 := (unhide HMB).c1; have m2 := (unhide HMB).c2
    have hsg := unhide HSG
    go_wp2_with (go_at_call 22; go_must (refine (unhide HSI).mono ?_; rintro e w3 ⟨rfl, hb3⟩; have HR3 := hide ((unhide HRB).later hb3); have HBW3 : Hid (Below w.heap.size w w3) := (unhide HBWB).trans (hb3.mono (unhide HBWB).size); clear hb3 m0 m1 m2; have q0 := (unhide HR3).c0; have q1 := (unhide HR3).c1; have f0 := (unhide HR3).f0; have f1 := (unhide HR3).f1))
    have hS := (unhide HR3).store (.string ⟨#[]⟩) (.string ⟨#[]⟩)
    have v0 := hS.c0; have v1 := hS.c1
    exact bodyPost_ret (v := .tuple #[.agg #[.string ⟨#[]⟩, .string ⟨#[]⟩], .int .i64 9]) (w := store2 w3 (w.heap.size + 1) (.string ⟨#[]⟩) (.string ⟨#[]⟩)) (by simp [results, Tryz.results6, go_sem, v0, v1]) rfl ⟨rfl, below_store2 (unhide HBW3) (by omega) _ _⟩

set_option maxRecDepth 100000 in
set_option maxHeartbeats 8000000 in
theorem to_tell (n d s t : ByteArray) (x : Rat) (i j : Nat) (w : World) (hx : IsR n d x) (hi : IsFirst (scB s) (i : Int)) (hj : IsFirst (scB t) (j : Int)) (hk : ¬ x * fq i + oq i < 0) (htab : Tab w) :
    Calls Tryz.prog 6 #[.agg #[.string n, .string d], .string s, .string t] w fun r w' => r = .returned (.tuple #[.agg #[.string (numT ((x * fq i + oq i + -oq j) * (fq j)⁻¹)), .string (denT ((x * fq i + oq i + -oq j) * (fq j)⁻¹))], .int .i64 (errT ((x * fq i + oq i + -oq j) * (fq j)⁻¹))]) ∧ Below w.heap.size w w' := by
  obtain ⟨V, hV⟩ : ∃ V, V = (w.alloc (.cells #[.string n, .string d] 23)).alloc (.cells #[.string ⟨#[]⟩, .string ⟨#[]⟩] 23) := ⟨_, rfl⟩
  have HN : Hid (T2 V w.heap.size (.string n) (.string d)) := by rw [hV]; exact ⟨by simp [go_sem], by simp [go_sem], by simp [go_sem], by simp [go_sem]⟩
  have HR : Hid (T2 V (w.heap.size + 1) (.string ⟨#[]⟩) (.string ⟨#[]⟩)) := by rw [hV]; exact ⟨by simp [go_sem], by simp [go_sem], by simp [go_sem], by simp [go_sem]⟩
  have HB : Hid (Below w.heap.size w V) := by rw [hV]; exact ((Below.refl _ _).alloc (Nat.le_refl _) _).alloc (by simp) _
  have HV := hide hV
  have HTW := hide htab
  have HRU := hide (fun W hb => readU_ok n d s t x i j W hx hi hj (htab.later hb))
  have HSG : Hid (Cub.cmpQ (x * fq i + oq i) 0 < 0 → False) := fun h => hk (cmp_neg_inv h)
  have HF0 := hide (fq_ne j)
  clear hV htab hx hi hj hk
  generalize hyy : (x * fq i + oq i + -oq j) * (fq j)⁻¹ = yy
  have HYY := hide hyy
  clear hyy
  go_enter Tryz.func6, Tryz.ntmps6
  go_upto_region 1 with fail
  rw [← unhide HV]
  clear HV
  have t0 := (unhide HN).c0; have t1 := (unhide HN).c1
  go_upto_region 2 with (go_at_call 19; go_must (refine (unhide HRU _ (unhide HB)).mono ?_; rintro e w1 ⟨bz, bp, bq, br, bv, az, dz, ap, dp, aq, dq, ar, dr, av, dv, lz, cz, mz, ez, lp, cp, mp, ep, lq, cq, mq, eq, lr, cr, mr, er, lv, cv, mv, ev, rfl, hq1, hb1⟩; have HQ1 := hide hq1; have HB1 := hide hb1; clear hq1 hb1 t0 t1))
  obtain ⟨A, hA⟩ : ∃ A, A = ((w1.alloc (.cells #[.bool bz, .slice az lz cz, .slice dz mz ez] 45)).alloc (.cells #[.bool bp, .slice ap lp cp, .slice dp mp ep, .bool bq, .slice aq lq cq, .slice dq mq eq] 47)).alloc (.cells #[.bool br, .slice ar lr cr, .slice dr mr er, .bool bv, .slice av lv cv, .slice dv mv ev] 47) := ⟨_, rfl⟩
  have HZA : Hid (FBox A w1.heap.size (.bool bz) (.slice az lz cz) (.slice dz mz ez)) := by rw [hA]; exact ⟨by simp [go_sem], by simp [go_sem], by simp [go_sem], by simp [go_sem], by simp [go_sem], by simp [go_sem]⟩
  have HPA : Hid (T6 A (w1.heap.size + 1) (.bool bp) (.slice ap lp cp) (.slice dp mp ep) (.bool bq) (.slice aq lq cq) (.slice dq mq eq)) := by rw [hA]; exact ⟨by simp [go_sem], by simp [go_sem], by simp [go_sem], by simp [go_sem], by simp [go_sem], by simp [go_sem], by simp [go_sem], by simp [go_sem], by simp [go_sem], by simp [go_sem], by simp [go_sem], by simp [go_sem]⟩
  have HTA : Hid (T6 A (w1.heap.size + 2) (.bool br) (.slice ar lr cr) (.slice dr mr er) (.bool bv) (.slice av lv cv) (.slice dv mv ev)) := by rw [hA]; exact ⟨by simp [go_sem], by simp [go_sem], by simp [go_sem], by simp [go_sem], by simp [go_sem], by simp [go_sem], by simp [go_sem], by simp [go_sem], by simp [go_sem], by simp [go_sem], by simp [go_sem], by simp [go_sem]⟩
  have HBA1 : Hid (Below w1.heap.size w1 A) := by rw [hA]; exact (((Below.refl _ _).alloc (Nat.le_refl _) _).alloc (by simp) _).alloc (by simp; omega) _
  rw [← hA]
  clear hA
  have HBA : Hid (Below V.heap.size V A) := (unhide HB1).trans ((unhide HBA1).mono (unhide HB1).size)
  have HQA := hide (And.intro ((unhide HQ1).1.later (unhide HBA1)) (And.intro ((unhide HQ1).2.1.later (unhide HBA1)) (And.intro ((unhide HQ1).2.2.1.later (unhide HBA1)) (And.intro ((unhide HQ1).2.2.2.1.later (unhide HBA1)) ((unhide HQ1).2.2.2.2.later (unhide HBA1))))))
  have HRA := hide ((unhide HR).later (unhide HBA))
  have HBW : Hid (Below w.heap.size w A) := (unhide HB).trans ((unhide HBA).mono (unhide HB).size)
  clear HQ1 HB1 HBA1 HBA
  generalize w1.heap.size = g8 at *
  have p0 := (unhide HPA).c0; have p1 := (unhide HPA).c1; have p2 := (unhide HPA).c2; have p3 := (unhide HPA).c3; have p4 := (unhide HPA).c4; have p5 := (unhide HPA).c5
  have r0 := (unhide HTA).c0; have r1 := (unhide HTA).c1; have r2 := (unhide HTA).c2; have r3 := (unhide HTA).c3; have r4 := (unhide HTA).c4; have r5 := (unhide HTA).c5
  go_upto_region 4 with fail
  go_region_held3 (fun w' => w'.cell? ⟨g8 + 1, 0, none⟩ = some (.bool bp) ∧ w'.cell? ⟨g8 + 1, 1, none⟩ = some (.slice ap lp cp) ∧ w'.cell? ⟨g8 + 1, 2, none⟩ = some (.slice dp mp ep) ∧ w'.cell? ⟨g8 + 1, 3, none⟩ = some (.bool bq) ∧ w'.cell? ⟨g8 + 1, 4, none⟩ = some (.slice aq lq cq) ∧ w'.cell? ⟨g8 + 1, 5, none⟩ = some (.slice dq mq eq) ∧ w'.cell? ⟨g8 + 2, 0, none⟩ = some (.bool br) ∧ w'.cell? ⟨g8 + 2, 1, none⟩ = some (.slice ar lr cr) ∧ w'.cell? ⟨g8 + 2, 2, none⟩ = some (.slice dr mr er) ∧ w'.cell? ⟨g8 + 2, 3, none⟩ = some (.bool bv) ∧ w'.cell? ⟨g8 + 2, 4, none⟩ = some (.slice av lv cv) ∧ w'.cell? ⟨g8 + 2, 5, none⟩ = some (.slice dv mv ev)) (first | assumption | (simp [go_sem, *]; done)) (fail)
  all_goals
    clear p0 p1 p2 p3 p4 p5 r0 r1 r2 r3 r4 r5
    have z0 := (unhide HZA).c0; have z1 := (unhide HZA).c1; have z2 := (unhide HZA).c2
    have HAD : Hid (Below A.heap.size A A.drew) := (Below.refl _ _).drew
    have HKE := hide (kelvins_any (.agg #[.bool bp, .slice ap lp cp, .slice dp mp ep]) (.agg #[.bool bq, .slice aq lq cq, .slice dq mq eq]) (.agg #[.bool bz, .slice az lz cz, .slice dz mz ez]) (fq i) (oq i) x 67 A.drew bp bq bz ap dp aq dq az dz lp cp mp ep lq cq mq eq lz cz mz ez rfl rfl rfl ((unhide HQA).2.1.later (unhide HAD)) ((unhide HQA).2.2.1.later (unhide HAD)) ((unhide HQA).1.later (unhide HAD)) (by omega))
    go_upto_region 6 with (go_at_call 20; go_must (refine (unhide HKE).mono ?_; rintro e w2 ⟨v2, rfl, hv2, hb2⟩; obtain ⟨bk, ak, lk, ck, dk, mk, ek, rfl⟩ := hv2.form; have HV2 := hide hv2; have HB2 : Hid (Below A.heap.size A w2) := (unhide HAD).trans (hb2.mono (unhide HAD).size); clear hv2 hb2 z0 z1 z2))
    obtain ⟨B, hB⟩ : ∃ B, B = w2.alloc (.cells #[.bool bk, .slice ak lk ck, .slice dk mk ek] 45) := ⟨_, rfl⟩
    have HMB : Hid (FBox B w2.heap.size (.bool bk) (.slice ak lk ck) (.slice dk mk ek)) := by rw [hB]; exact ⟨by simp [go_sem], by simp [go_sem], by simp [go_sem], by simp [go_sem], by simp [go_sem], by simp [go_sem]⟩
    have HBB2 : Hid (Below w2.heap.size w2 B) := by rw [hB]; exact (Below.refl _ _).alloc (Nat.le_refl _) _
    rw [← hB]
    clear hB
    have HBB : Hid (Below A.heap.size A B) := (unhide HB2).trans ((unhide HBB2).mono (unhide HB2).size)
    have HVB := hide ((unhide HV2).later (unhide HBB2))
    have HRB := hide ((unhide HRA).later (unhide HBB))
    have HBWB : Hid (Below w.heap.size w B) := (unhide HBW).trans ((unhide HBB).mono (unhide HBW).size)
    have HSI := hide (qsign (.agg #[.bool bk, .slice ak lk ck, .slice dk mk ek]) _ _ B (unhide HVB))
    clear HB2 HBB2 HV2
    generalize w2.heap.size = g14 at *
    generalize Cub.cmpQ (x * fq i + oq i) 0 = sg at HSI HSG
    have m0 := (unhide HMB).c0; have m1 := (unhide HMB).c1; have m2 := (unhide HMB).c2
    have hsg : ¬ sg < 0 := fun h => unhide HSG h
    go_upto_region 8 with (go_at_call 22; go_must (refine (unhide HSI).mono ?_; rintro e w3 ⟨rfl, hb3⟩; have HB3 := hide hb3; have HMB3 := hide ((unhide HMB).later hb3); have HVB3 := hide ((unhide HVB).later hb3); have HR3 := hide ((unhide HRB).later hb3); have HBA3 : Hid (Below A.heap.size A w3) := (unhide HBB).trans (hb3.mono (unhide HBB).size); clear hb3 m0 m1 m2))
    have m0 := (unhide HMB3).c0; have m1 := (unhide HMB3).c1; have m2 := (unhide HMB3).c2
    have HBW3 : Hid (Below w.heap.size w w3) := (unhide HBW).trans ((unhide HBA3).mono (unhide HBW).size)
    have HMK := hide (mark_any (.agg #[.bool br, .slice ar lr cr, .slice dr mr er]) (.agg #[.bool bv, .slice av lv cv, .slice dv mv ev]) (.agg #[.bool bk, .slice ak lk ck, .slice dk mk ek]) (fq j) (oq j) (x * fq i + oq i) (67 + 67 + (67 + 67) + (67 + 67)) w3 br bv bk ar dr av dv ak dk lr cr mr er lv cv mv ev lk ck mk ek rfl rfl rfl (((unhide HQA).2.2.2.1.later (unhide HBA3)).mono (by omega)) (((unhide HQA).2.2.2.2.later (unhide HBA3)).mono (by omega)) (unhide HVB3) (by omega) (unhide HF0))
    rw [unhide HYY] at HMK
    go_wp2_with (first
      | (go_at_call 21; go_must (refine (unhide HMK).mono ?_; rintro e w4 ⟨v4, rfl, hv4, hb4⟩; have HV4 := hide hv4; have HB4 := hide hb4; clear hv4 hb4 m0 m1 m2))
      | (go_at_call 23; go_must (refine (qtell _ _ _ _ (unhide HV4) (by omega) ((unhide HTW).later ((unhide HBW3).trans ((unhide HB4).mono (unhide HBW3).size)))).mono ?_; rintro e w5 ⟨rfl, hb5⟩; have HB5 : Hid (Below w3.heap.size w3 w5) := (unhide HB4).trans (hb5.mono (unhide HB4).size); have HR5 := hide ((unhide HR3).later (unhide HB5)); clear hb5; have q0 := (unhide HR5).c0; have q1 := (unhide HR5).c1; have f0 := (unhide HR5).f0; have f1 := (unhide HR5).f1)))
    have hS := (unhide HR5).store (.string (numT yy)) (.string (denT yy))
    have v0 := hS.c0; have v1 := hS.c1
    exact bodyPost_ret (v := .tuple #[.agg #[.string (numT yy), .string (denT yy)], .int .i64 (errT yy)]) (w := store2 w5 (w.heap.size + 1) (.string (numT yy)) (.string (denT yy))) (by simp [results, Tryz.results6, go_sem, v0, v1]) rfl ⟨rfl, below_store2 ((unhide HBW3).trans ((unhide HB5).mono (unhide HBW3).size)) (by omega) _ _⟩
end Go.Proofs.YtimihoonnglniaaGreatDoor

namespace Go.Proofs.YtimihoonnglniaaGreatDoor
open Go.RowKit
theorem count_gen (ux v : Value) (p x : Rat) (k : Nat) (w : World) (b c : Bool) (a1 a2 a3 a4 : Option Addr) (l1 c1 l2 c2 l3 c3 l4 c4 : Nat) (hux : ux = .agg #[.bool b, .slice a1 l1 c1, .slice a2 l2 c2]) (hx : QOf w ux p k) (hz : QOf w v x k) (hk : k + k ≤ 100000) (hp0 : p ≠ 0) :
    Calls Tryz.prog 28 #[.agg #[.bool b, .slice a1 l1 c1, .slice a2 l2 c2, .bool c, .slice a3 l3 c3, .slice a4 l4 c4], v] w fun r w' => ∃ v, r = .returned v ∧ QOf w' v (x * p⁻¹) (k + k) ∧ Below w.heap.size w w' := by
  obtain ⟨bk, ak, lk, ck, dk, mk, ek, rfl⟩ := hz.form
  exact count_any ux _ p x k w b c bk a1 a2 a3 a4 ak dk l1 c1 l2 c2 l3 c3 l4 c4 lk ck mk ek hux rfl hx hz hk hp0
set_option maxRecDepth 100000 in
set_option maxHeartbeats 8000000 in
theorem step_ok (n d s t : ByteArray) (x : Rat) (i j : Nat) (w : World) (hx : IsR n d x) (hi : IsFirst (scB s) (i : Int)) (hj : IsFirst (scB t) (j : Int)) (htab : Tab w) :
    Calls Tryz.prog 8 #[.agg #[.string n, .string d], .string s, .string t] w fun r w' => r = .returned (.tuple #[.agg #[.string (numT (x * fq i * (fq j)⁻¹)), .string (denT (x * fq i * (fq j)⁻¹))], .int .i64 (errT (x * fq i * (fq j)⁻¹))]) ∧ Below w.heap.size w w' := by
  obtain ⟨V, hV⟩ : ∃ V, V = (w.alloc (.cells #[.string n, .string d] 23)).alloc (.cells #[.string ⟨#[]⟩, .string ⟨#[]⟩] 23) := ⟨_, rfl⟩
  have HN : Hid (T2 V w.heap.size (.string n) (.string d)) := by rw [hV]; exact ⟨by simp [go_sem], by simp [go_sem], by simp [go_sem], by simp [go_sem]⟩
  have HR : Hid (T2 V (w.heap.size + 1) (.string ⟨#[]⟩) (.string ⟨#[]⟩)) := by rw [hV]; exact ⟨by simp [go_sem], by simp [go_sem], by simp [go_sem], by simp [go_sem]⟩
  have HB : Hid (Below w.heap.size w V) := by rw [hV]; exact ((Below.refl _ _).alloc (Nat.le_refl _) _).alloc (by simp) _
  have HV := hide hV
  have HTW := hide htab
  have HRU := hide (fun W hb => readU_ok n d s t x i j W hx hi hj (htab.later hb))
  have HF0 := hide (fq_ne j)
  clear hV htab hx hi hj
  generalize hyy : x * fq i * (fq j)⁻¹ = yy
  have HYY := hide hyy
  clear hyy
  go_enter Tryz.func8, Tryz.ntmps8
  go_upto_region 1 with fail
  rw [← unhide HV]
  clear HV
  have t0 := (unhide HN).c0; have t1 := (unhide HN).c1
  go_upto_region 2 with (go_at_call 19; go_must (refine (unhide HRU _ (unhide HB)).mono ?_; rintro e w1 ⟨bz, bp, bq, br, bv, az, dz, ap, dp, aq, dq, ar, dr, av, dv, lz, cz, mz, ez, lp, cp, mp, ep, lq, cq, mq, eq, lr, cr, mr, er, lv, cv, mv, ev, rfl, hq1, hb1⟩; have HQ1 := hide hq1; have HB1 := hide hb1; clear hq1 hb1 t0 t1))
  obtain ⟨A, hA⟩ : ∃ A, A = ((w1.alloc (.cells #[.bool bz, .slice az lz cz, .slice dz mz ez] 45)).alloc (.cells #[.bool bp, .slice ap lp cp, .slice dp mp ep, .bool bq, .slice aq lq cq, .slice dq mq eq] 47)).alloc (.cells #[.bool br, .slice ar lr cr, .slice dr mr er, .bool bv, .slice av lv cv, .slice dv mv ev] 47) := ⟨_, rfl⟩
  have HZA : Hid (FBox A w1.heap.size (.bool bz) (.slice az lz cz) (.slice dz mz ez)) := by rw [hA]; exact ⟨by simp [go_sem], by simp [go_sem], by simp [go_sem], by simp [go_sem], by simp [go_sem], by simp [go_sem]⟩
  have HPA : Hid (T6 A (w1.heap.size + 1) (.bool bp) (.slice ap lp cp) (.slice dp mp ep) (.bool bq) (.slice aq lq cq) (.slice dq mq eq)) := by rw [hA]; exact ⟨by simp [go_sem], by simp [go_sem], by simp [go_sem], by simp [go_sem], by simp [go_sem], by simp [go_sem], by simp [go_sem], by simp [go_sem], by simp [go_sem], by simp [go_sem], by simp [go_sem], by simp [go_sem]⟩
  have HTA : Hid (T6 A (w1.heap.size + 2) (.bool br) (.slice ar lr cr) (.slice dr mr er) (.bool bv) (.slice av lv cv) (.slice dv mv ev)) := by rw [hA]; exact ⟨by simp [go_sem], by simp [go_sem], by simp [go_sem], by simp [go_sem], by simp [go_sem], by simp [go_sem], by simp [go_sem], by simp [go_sem], by simp [go_sem], by simp [go_sem], by simp [go_sem], by simp [go_sem]⟩
  have HBA1 : Hid (Below w1.heap.size w1 A) := by rw [hA]; exact (((Below.refl _ _).alloc (Nat.le_refl _) _).alloc (by simp) _).alloc (by simp; omega) _
  rw [← hA]
  clear hA
  have HBA : Hid (Below V.heap.size V A) := (unhide HB1).trans ((unhide HBA1).mono (unhide HB1).size)
  have HQA := hide (And.intro ((unhide HQ1).1.later (unhide HBA1)) (And.intro ((unhide HQ1).2.1.later (unhide HBA1)) (And.intro ((unhide HQ1).2.2.1.later (unhide HBA1)) (And.intro ((unhide HQ1).2.2.2.1.later (unhide HBA1)) ((unhide HQ1).2.2.2.2.later (unhide HBA1))))))
  have HRA := hide ((unhide HR).later (unhide HBA))
  have HBW : Hid (Below w.heap.size w A) := (unhide HB).trans ((unhide HBA).mono (unhide HB).size)
  clear HQ1 HB1 HBA1 HBA
  generalize w1.heap.size = g8 at *
  have p0 := (unhide HPA).c0; have p1 := (unhide HPA).c1; have p2 := (unhide HPA).c2; have p3 := (unhide HPA).c3; have p4 := (unhide HPA).c4; have p5 := (unhide HPA).c5
  have r0 := (unhide HTA).c0; have r1 := (unhide HTA).c1; have r2 := (unhide HTA).c2; have r3 := (unhide HTA).c3; have r4 := (unhide HTA).c4; have r5 := (unhide HTA).c5
  go_upto_region 4 with fail
  go_region_held3 (fun w' => w'.cell? ⟨g8 + 1, 0, none⟩ = some (.bool bp) ∧ w'.cell? ⟨g8 + 1, 1, none⟩ = some (.slice ap lp cp) ∧ w'.cell? ⟨g8 + 1, 2, none⟩ = some (.slice dp mp ep) ∧ w'.cell? ⟨g8 + 1, 3, none⟩ = some (.bool bq) ∧ w'.cell? ⟨g8 + 1, 4, none⟩ = some (.slice aq lq cq) ∧ w'.cell? ⟨g8 + 1, 5, none⟩ = some (.slice dq mq eq) ∧ w'.cell? ⟨g8 + 2, 0, none⟩ = some (.bool br) ∧ w'.cell? ⟨g8 + 2, 1, none⟩ = some (.slice ar lr cr) ∧ w'.cell? ⟨g8 + 2, 2, none⟩ = some (.slice dr mr er) ∧ w'.cell? ⟨g8 + 2, 3, none⟩ = some (.bool bv) ∧ w'.cell? ⟨g8 + 2, 4, none⟩ = some (.slice av lv cv) ∧ w'.cell? ⟨g8 + 2, 5, none⟩ = some (.slice dv mv ev)) (first | assumption | (simp [go_sem, *]; done)) (fail)
  all_goals
    clear p0 p1 p2 p3 p4 p5 r0 r1 r2 r3 r4 r5
    have z0 := (unhide HZA).c0; have z1 := (unhide HZA).c1; have z2 := (unhide HZA).c2
    have HAD : Hid (Below A.heap.size A A.drew) := (Below.refl _ _).drew
    have HST := hide (steps_any (.agg #[.bool bp, .slice ap lp cp, .slice dp mp ep]) (.agg #[.bool bz, .slice az lz cz, .slice dz mz ez]) (fq i) x 67 A.drew bp bq bz ap dp aq dq az dz lp cp mp ep lq cq mq eq lz cz mz ez rfl rfl ((unhide HQA).2.1.later (unhide HAD)) ((unhide HQA).1.later (unhide HAD)) (by omega))
    have HCN := hide (fun W (hb : Below A.heap.size A W) v (hv : QOf W v (x * fq i) (67 + 67)) => count_gen (.agg #[.bool br, .slice ar lr cr, .slice dr mr er]) v (fq j) (x * fq i) (67 + 67) W br bv ar dr av dv lr cr mr er lv cv mv ev rfl (((unhide HQA).2.2.2.1.later hb).mono (by omega)) hv (by omega) (unhide HF0))
    rw [unhide HYY] at HCN
    go_wp2_with (first
      | (go_at_call 27; go_must (refine (unhide HST).mono ?_; rintro e w2 ⟨v2, rfl, hv2, hb2⟩; have HV2 := hide hv2; have HB2 : Hid (Below A.heap.size A w2) := (unhide HAD).trans (hb2.mono (unhide HAD).size); clear hv2 hb2 z0 z1 z2))
      | (go_at_call 28; go_must (refine (unhide HCN _ (unhide HB2) _ (unhide HV2)).mono ?_; rintro e w4 ⟨v4, rfl, hv4, hb4⟩; have HV4 := hide hv4; have HB4 : Hid (Below A.heap.size A w4) := (unhide HB2).trans (hb4.mono (unhide HB2).size); clear hv4 hb4))
      | (go_at_call 23; go_must (refine (qtell _ _ _ _ (unhide HV4) (by omega) ((unhide HTW).later ((unhide HBW).trans ((unhide HB4).mono (unhide HBW).size)))).mono ?_; rintro e w5 ⟨rfl, hb5⟩; have HB5 : Hid (Below A.heap.size A w5) := (unhide HB4).trans (hb5.mono (unhide HB4).size); have HR5 := hide ((unhide HRA).later (unhide HB5)); clear hb5; have q0 := (unhide HR5).c0; have q1 := (unhide HR5).c1; have f0 := (unhide HR5).f0; have f1 := (unhide HR5).f1)))
    have hS := (unhide HR5).store (.string (numT yy)) (.string (denT yy))
    have v0 := hS.c0; have v1 := hS.c1
    exact bodyPost_ret (v := .tuple #[.agg #[.string (numT yy), .string (denT yy)], .int .i64 (errT yy)]) (w := store2 w5 (w.heap.size + 1) (.string (numT yy)) (.string (denT yy))) (by simp [results, Tryz.results8, go_sem, v0, v1]) rfl ⟨rfl, below_store2 ((unhide HBW).trans ((unhide HB5).mono (unhide HBW).size)) (by omega) _ _⟩
end Go.Proofs.YtimihoonnglniaaGreatDoor
