/- TempsSteps, walked. -/
import Derived.Test.YtimihoonnglniaaGreatDoorRefLimbs
import Derived.Test.YtimihoonnglniaaGreatDoorRefVal
import Derived.Deep.RegionHeld3
import Derived.Deep.Cut
import Derived.Deep.Quiet
import Derived.BigQuiet
namespace Go.Proofs.YtimihoonnglniaaGreatDoor
open Go.RowKit
set_option maxRecDepth 100000 in
set_option maxHeartbeats 16000000 in
theorem steps_wrong1 (n d m k : ByteArray) (a b : Int) (w : World)
    (hr1 : ∀ W, Below w.heap.size w W → Calls Tryz.prog 11 #[.agg #[.string n, .string d]] W fun r w' => r = .returned (.bool false) ∧ Below W.heap.size W w')
    (haw : ∀ W, Below w.heap.size w W → Calls Tryz.prog 10 #[] W fun r w' => r = .returned (.bool true) ∧ Below W.heap.size W w') :
    Calls Tryz.prog 5 #[.agg #[.string n, .string d], .agg #[.string m, .string k], .int .i64 a, .int .i64 b] w fun r w' => r = .returned (.bool true) ∧ Below w.heap.size w w' := by
  obtain ⟨V, hV⟩ : ∃ V, V = (w.alloc (.cells #[.string n, .string d] 23)).alloc (.cells #[.string m, .string k] 23) := ⟨_, rfl⟩
  have BN0 : Hid (T2 V w.heap.size (.string n) (.string d)) := by rw [hV]; exact ⟨by simp [go_sem], by simp [go_sem], by simp [go_sem], by simp [go_sem]⟩
  have BM0 : Hid (T2 V (w.heap.size + 1) (.string m) (.string k)) := by rw [hV]; exact ⟨by simp [go_sem], by simp [go_sem], by simp [go_sem], by simp [go_sem]⟩
  have HB0 : Hid (Below w.heap.size w V) := by rw [hV]; exact ((Below.refl _ _).alloc (Nat.le_refl _) _).alloc (by simp) _
  have HV := hide hV
  have HR1 := hide hr1; have HAW := hide haw
  clear hV hr1 haw
  go_enter Tryz.func5, Tryz.ntmps5
  go_upto_region 1 with fail
  rw [← unhide HV]
  clear HV
  have a0 := (unhide BN0).c0; have a1 := (unhide BN0).c1; have b0 := (unhide BM0).c0; have b1 := (unhide BM0).c1
  go_wp2_with (first
    | (go_at_call_of 11 (Value.agg #[Value.string n, Value.string d]); go_must (refine (unhide HR1 _ (unhide HB0)).mono ?_; rintro e V1 ⟨rfl, hb⟩; have BN1 := hide ((unhide BN0).later hb); have BM1 := hide ((unhide BM0).later hb); have HB1 := hide ((unhide HB0).trans (hb.mono (unhide HB0).size)); clear hb a0 a1 b0 b1; have a0 := (unhide BN1).c0; have a1 := (unhide BN1).c1; have b0 := (unhide BM1).c0; have b1 := (unhide BM1).c1))
    | (go_at_call 10; go_must (refine (unhide HAW _ (unhide HB1)).mono ?_; rintro e V2 ⟨rfl, hb⟩; have HB2 := hide ((unhide HB1).trans (hb.mono (unhide HB1).size)); clear hb)))
  go_ret
  exact ⟨rfl, unhide HB2⟩
set_option maxRecDepth 100000 in
set_option maxHeartbeats 16000000 in
theorem steps_wrong2 (n d m k : ByteArray) (a b : Int) (w : World)
    (hr1 : ∀ W, Below w.heap.size w W → Calls Tryz.prog 11 #[.agg #[.string n, .string d]] W fun r w' => r = .returned (.bool true) ∧ Below W.heap.size W w')
    (hr2 : ∀ W, Below w.heap.size w W → Calls Tryz.prog 11 #[.agg #[.string m, .string k]] W fun r w' => r = .returned (.bool false) ∧ Below W.heap.size W w')
    (haw : ∀ W, Below w.heap.size w W → Calls Tryz.prog 10 #[] W fun r w' => r = .returned (.bool true) ∧ Below W.heap.size W w') :
    Calls Tryz.prog 5 #[.agg #[.string n, .string d], .agg #[.string m, .string k], .int .i64 a, .int .i64 b] w fun r w' => r = .returned (.bool true) ∧ Below w.heap.size w w' := by
  obtain ⟨V, hV⟩ : ∃ V, V = (w.alloc (.cells #[.string n, .string d] 23)).alloc (.cells #[.string m, .string k] 23) := ⟨_, rfl⟩
  have BN0 : Hid (T2 V w.heap.size (.string n) (.string d)) := by rw [hV]; exact ⟨by simp [go_sem], by simp [go_sem], by simp [go_sem], by simp [go_sem]⟩
  have BM0 : Hid (T2 V (w.heap.size + 1) (.string m) (.string k)) := by rw [hV]; exact ⟨by simp [go_sem], by simp [go_sem], by simp [go_sem], by simp [go_sem]⟩
  have HB0 : Hid (Below w.heap.size w V) := by rw [hV]; exact ((Below.refl _ _).alloc (Nat.le_refl _) _).alloc (by simp) _
  have HV := hide hV
  have HR1 := hide hr1; have HR2 := hide hr2; have HAW := hide haw
  clear hV hr1 hr2 haw
  go_enter Tryz.func5, Tryz.ntmps5
  go_upto_region 1 with fail
  rw [← unhide HV]
  clear HV
  have a0 := (unhide BN0).c0; have a1 := (unhide BN0).c1; have b0 := (unhide BM0).c0; have b1 := (unhide BM0).c1
  go_wp2_with (first
    | (go_at_call_of 11 (Value.agg #[Value.string n, Value.string d]); go_must (refine (unhide HR1 _ (unhide HB0)).mono ?_; rintro e V1 ⟨rfl, hb⟩; have BN1 := hide ((unhide BN0).later hb); have BM1 := hide ((unhide BM0).later hb); have HB1 := hide ((unhide HB0).trans (hb.mono (unhide HB0).size)); clear hb a0 a1 b0 b1; have a0 := (unhide BN1).c0; have a1 := (unhide BN1).c1; have b0 := (unhide BM1).c0; have b1 := (unhide BM1).c1))
    | (go_at_call_of 11 (Value.agg #[Value.string m, Value.string k]); go_must (refine (unhide HR2 _ (unhide HB1)).mono ?_; rintro e V2 ⟨rfl, hb⟩; have BN2 := hide ((unhide BN1).later hb); have BM2 := hide ((unhide BM1).later hb); have HB2 := hide ((unhide HB1).trans (hb.mono (unhide HB1).size)); clear hb a0 a1 b0 b1; have a0 := (unhide BN2).c0; have a1 := (unhide BN2).c1; have b0 := (unhide BM2).c0; have b1 := (unhide BM2).c1))
    | (go_at_call 10; go_must (refine (unhide HAW _ (unhide HB2)).mono ?_; rintro e V3 ⟨rfl, hb⟩; have HB3 := hide ((unhide HB2).trans (hb.mono (unhide HB2).size)); clear hb)))
  go_ret
  exact ⟨rfl, unhide HB3⟩
set_option maxRecDepth 100000 in
set_option maxHeartbeats 16000000 in
theorem steps_no1 (n d m k pn pd qn qd sa sb : ByteArray) (a b ee ff : Int) (w : World)
    (hr1 : ∀ W, Below w.heap.size w W → Calls Tryz.prog 11 #[.agg #[.string n, .string d]] W fun r w' => r = .returned (.bool true) ∧ Below W.heap.size W w')
    (hr2 : ∀ W, Below w.heap.size w W → Calls Tryz.prog 11 #[.agg #[.string m, .string k]] W fun r w' => r = .returned (.bool true) ∧ Below W.heap.size W w')
    (ho1 : ∀ W, Below w.heap.size w W → Calls Tryz.prog 12 #[.int .i64 a] W fun r w' => r = .returned (.string sa) ∧ Below W.heap.size W w')
    (ho2 : ∀ W, Below w.heap.size w W → Calls Tryz.prog 12 #[.int .i64 b] W fun r w' => r = .returned (.string sb) ∧ Below W.heap.size W w')
    (ht1 : ∀ W, Below w.heap.size w W → Calls Tryz.prog 6 #[.agg #[.string n, .string d], .string sa, .string sb] W fun r w' => r = .returned (.tuple #[.agg #[.string pn, .string pd], .int .i64 ee]) ∧ Below W.heap.size W w')
    (ht2 : ∀ W, Below w.heap.size w W → Calls Tryz.prog 6 #[.agg #[.string m, .string k], .string sa, .string sb] W fun r w' => r = .returned (.tuple #[.agg #[.string qn, .string qd], .int .i64 ff]) ∧ Below W.heap.size W w')
    (haw : ∀ W, Below w.heap.size w W → Calls Tryz.prog 10 #[] W fun r w' => r = .returned (.bool true) ∧ Below W.heap.size W w') (he : ee ≠ 0) :
    Calls Tryz.prog 5 #[.agg #[.string n, .string d], .agg #[.string m, .string k], .int .i64 a, .int .i64 b] w fun r w' => r = .returned (.bool true) ∧ Below w.heap.size w w' := by
  obtain ⟨V, hV⟩ : ∃ V, V = (w.alloc (.cells #[.string n, .string d] 23)).alloc (.cells #[.string m, .string k] 23) := ⟨_, rfl⟩
  have BN0 : Hid (T2 V w.heap.size (.string n) (.string d)) := by rw [hV]; exact ⟨by simp [go_sem], by simp [go_sem], by simp [go_sem], by simp [go_sem]⟩
  have BM0 : Hid (T2 V (w.heap.size + 1) (.string m) (.string k)) := by rw [hV]; exact ⟨by simp [go_sem], by simp [go_sem], by simp [go_sem], by simp [go_sem]⟩
  have HB0 : Hid (Below w.heap.size w V) := by rw [hV]; exact ((Below.refl _ _).alloc (Nat.le_refl _) _).alloc (by simp) _
  have HV := hide hV
  have HR1 := hide hr1; have HR2 := hide hr2; have HO1 := hide ho1; have HO2 := hide ho2; have HT1 := hide ht1; have HT2 := hide ht2; have HAW := hide haw
  clear hV hr1 hr2 ho1 ho2 ht1 ht2 haw
  go_enter Tryz.func5, Tryz.ntmps5
  go_upto_region 1 with fail
  rw [← unhide HV]
  clear HV
  have a0 := (unhide BN0).c0; have a1 := (unhide BN0).c1; have b0 := (unhide BM0).c0; have b1 := (unhide BM0).c1
  go_upto_region 3 with (first
    | (go_at_call_of 11 (Value.agg #[Value.string n, Value.string d]); go_must (refine (unhide HR1 _ (unhide HB0)).mono ?_; rintro e V1 ⟨rfl, hb⟩; have BN1 := hide ((unhide BN0).later hb); have BM1 := hide ((unhide BM0).later hb); have HB1 := hide ((unhide HB0).trans (hb.mono (unhide HB0).size)); clear hb a0 a1 b0 b1; have a0 := (unhide BN1).c0; have a1 := (unhide BN1).c1; have b0 := (unhide BM1).c0; have b1 := (unhide BM1).c1))
    | (go_at_call_of 11 (Value.agg #[Value.string m, Value.string k]); go_must (refine (unhide HR2 _ (unhide HB1)).mono ?_; rintro e V2 ⟨rfl, hb⟩; have BN2 := hide ((unhide BN1).later hb); have BM2 := hide ((unhide BM1).later hb); have HB2 := hide ((unhide HB1).trans (hb.mono (unhide HB1).size)); clear hb a0 a1 b0 b1)))
  go_cut [9, 10] from 27 (fun s9 s10 wx => ∃ g, s9 = .pointer (some ⟨g, 0, none⟩) ∧ s10 = .int .i64 ee ∧ Hid (T2 wx g (.string pn) (.string pd) ∧ Below V2.heap.size V2 wx))
  case first =>
    have t00 := (unhide BN2).c0; have t01 := (unhide BN2).c1
    have HC0 : Hid (Below V2.heap.size V2 V2.drew) := (Below.refl _ _).drew
    have HUP : Hid (∀ W, Below V2.heap.size V2 W → Below w.heap.size w W) := fun W h => (unhide HB2).trans (h.mono (unhide HB2).size)
    have HUA : Hid (∀ W O, Below V2.heap.size V2 W → Below w.heap.size w (W.alloc O)) := fun W O h => (unhide HB2).trans ((h.alloc h.size O).mono (unhide HB2).size)
    have HUD : Hid (∀ O, Below w.heap.size w (V2.alloc O).drew) := fun O => ((unhide HB2).alloc (unhide HB2).size O).drew
    have hv0 := (unhide BN2).lt
    go_region_held3 (fun w' => w'.cell? ⟨w.heap.size, 0, none⟩ = some (.string n) ∧ w'.cell? ⟨w.heap.size, 1, none⟩ = some (.string d)) (first | assumption | (simp [go_sem, *]; done)) ((first
      | (go_at_call 6; refine (unhide HT1 _ (by first | exact unhide HUP _ (unhide HCwb) | exact unhide HUA _ _ (unhide HCwb))).mono ?_; rintro e wd ⟨rfl, hb⟩; have HCwd : Hid (Below V2.heap.size V2 wd) := (by first | exact (unhide HCwb).trans (hb.mono (unhide HCwb).size) | exact bel_al (unhide HCwb) hb); (first | (have HZwd := hide ((unhide HZwb).later hb); clear u0 u1 uf0 uf1; have u0 := (unhide HZwd).c0; have u1 := (unhide HZwd).c1; have uf0 := (unhide HZwd).f0; have uf1 := (unhide HZwd).f1) | (have HZwd : Hid (T2 wd wb.heap.size (.string ⟨#[]⟩) (.string ⟨#[]⟩)) := (by first | exact T2.past hb | exact T2.pastD hb); have u0 := (unhide HZwd).c0; have u1 := (unhide HZwd).c1; have uf0 := (unhide HZwd).f0; have uf1 := (unhide HZwd).f1) | skip); clear hb t00 t01; have t00 := ((unhide BN2).later (unhide HCwd)).c0; have t01 := ((unhide BN2).later (unhide HCwd)).c1; have hv0wd := ((unhide BN2).later (unhide HCwd)).lt)
      | (go_at_call_of 12 b; refine (unhide HO2 _ (by first | exact unhide HUP _ (unhide HCwa) | exact unhide HUA _ _ (unhide HCwa))).mono ?_; rintro e wb ⟨rfl, hb⟩; have HCwb : Hid (Below V2.heap.size V2 wb) := (by first | exact (unhide HCwa).trans (hb.mono (unhide HCwa).size) | exact bel_al (unhide HCwa) hb); (first | (have HZwb := hide ((unhide HZwa).later hb); clear u0 u1 uf0 uf1; have u0 := (unhide HZwb).c0; have u1 := (unhide HZwb).c1; have uf0 := (unhide HZwb).f0; have uf1 := (unhide HZwb).f1) | (have HZwb : Hid (T2 wb wa.heap.size (.string ⟨#[]⟩) (.string ⟨#[]⟩)) := (by first | exact T2.past hb | exact T2.pastD hb); have u0 := (unhide HZwb).c0; have u1 := (unhide HZwb).c1; have uf0 := (unhide HZwb).f0; have uf1 := (unhide HZwb).f1) | skip); clear hb t00 t01; have t00 := ((unhide BN2).later (unhide HCwb)).c0; have t01 := ((unhide BN2).later (unhide HCwb)).c1; have hv0wb := ((unhide BN2).later (unhide HCwb)).lt)
      | (go_at_call_of 12 a; refine (unhide HO1 _ (by first | exact unhide HUP _ (unhide HC0) | exact unhide HUA _ _ (unhide HC0) | exact unhide HUD _)).mono ?_; rintro e wa ⟨rfl, hb⟩; have HCwa : Hid (Below V2.heap.size V2 wa) := (by first | exact (unhide HC0).trans (hb.mono (unhide HC0).size) | exact bel_al (unhide HC0) hb | exact bel_alD hb); (first | (have HZwa := hide ((unhide HZ0).later hb); clear u0 u1 uf0 uf1; have u0 := (unhide HZwa).c0; have u1 := (unhide HZwa).c1; have uf0 := (unhide HZwa).f0; have uf1 := (unhide HZwa).f1) | (have HZwa : Hid (T2 wa V2.heap.size (.string ⟨#[]⟩) (.string ⟨#[]⟩)) := (by first | exact T2.past hb | exact T2.pastD hb); have u0 := (unhide HZwa).c0; have u1 := (unhide HZwa).c1; have uf0 := (unhide HZwa).f0; have uf1 := (unhide HZwa).f1) | skip); clear hb t00 t01; have t00 := ((unhide BN2).later (unhide HCwa)).c0; have t01 := ((unhide BN2).later (unhide HCwa)).c1; have hv0wa := ((unhide BN2).later (unhide HCwa)).lt)))
    all_goals
      first
      | (obtain ⟨X, hX⟩ : ∃ X, X = wd.heap.size := ⟨_, rfl⟩
         obtain ⟨U, hU⟩ : ∃ U, U = wd.alloc (.cells #[.string pn, .string pd] 23) := ⟨_, rfl⟩
         have HF : Hid (T2 U X (.string pn) (.string pd) ∧ Below V2.heap.size V2 U) := by
           rw [hU, hX]
           exact ⟨⟨by simp [go_sem], by simp [go_sem], by simp [go_sem], by simp [go_sem]⟩, (unhide HCwd).alloc (unhide HCwd).size _⟩
         rw [← hU, ← hX]
         clear hU hX)
      | (obtain ⟨X, hX⟩ : ∃ X, X = wb.heap.size := ⟨_, rfl⟩
         obtain ⟨U, hU⟩ : ∃ U, U = ((wd.setCell { block := wb.heap.size, off := 0 } (.string pn)).setCell { block := wb.heap.size, off := 1 } (.string pd)) := ⟨_, rfl⟩
         have HF : Hid (T2 U X (.string pn) (.string pd) ∧ Below V2.heap.size V2 U) := by
           rw [hU, hX]
           exact ⟨(unhide HZwd).store _ _ , below_store2 (unhide HCwd) ((unhide HCwb).size) _ _ ⟩
         rw [← hU, ← hX]
         clear hU hX)
      | (obtain ⟨X, hX⟩ : ∃ X, X = wa.heap.size := ⟨_, rfl⟩
         obtain ⟨U, hU⟩ : ∃ U, U = ((wd.setCell { block := wa.heap.size, off := 0 } (.string pn)).setCell { block := wa.heap.size, off := 1 } (.string pd)) := ⟨_, rfl⟩
         have HF : Hid (T2 U X (.string pn) (.string pd) ∧ Below V2.heap.size V2 U) := by
           rw [hU, hX]
           exact ⟨(unhide HZwd).store _ _ , below_store2 (unhide HCwd) ((unhide HCwa).size) _ _ ⟩
         rw [← hU, ← hX]
         clear hU hX)
      | (obtain ⟨X, hX⟩ : ∃ X, X = V2.heap.size := ⟨_, rfl⟩
         obtain ⟨U, hU⟩ : ∃ U, U = ((wd.setCell { block := V2.heap.size, off := 0 } (.string pn)).setCell { block := V2.heap.size, off := 1 } (.string pd)) := ⟨_, rfl⟩
         have HF : Hid (T2 U X (.string pn) (.string pd) ∧ Below V2.heap.size V2 U) := by
           rw [hU, hX]
           exact ⟨(unhide HZwd).store _ _ , below_store2 (unhide HCwd) (Nat.le_refl _) _ _ ⟩
         rw [← hU, ← hX]
         clear hU hX)
    all_goals
      clear t00 t01
      go_wp2_with fail
      go_meet
      exact ⟨X, rfl, rfl, unhide HF⟩
  case rest =>
    obtain ⟨gV3, rfl, rfl, HTV3⟩ := hcut
    generalize wc = V3 at HTV3 ⊢
    have BN3 := hide ((unhide BN2).later (unhide HTV3).2)
    have BM3 := hide ((unhide BM2).later (unhide HTV3).2)
    have HB3 := hide ((unhide HB2).trans (((unhide HTV3).2).mono (unhide HB2).size))
    have BP3 := hide (unhide HTV3).1
    clear BN2 BM2 HB2
    clear HTV3
    go_upto_region 4 with fail
    go_cut [11, 12] from 27 (fun s9 s10 wx => ∃ g, s9 = .pointer (some ⟨g, 0, none⟩) ∧ s10 = .int .i64 ff ∧ Hid (T2 wx g (.string qn) (.string qd) ∧ Below V3.heap.size V3 wx))
    case first =>
      have t00 := (unhide BM3).c0; have t01 := (unhide BM3).c1
      have HC0 : Hid (Below V3.heap.size V3 V3.drew) := (Below.refl _ _).drew
      have HUP : Hid (∀ W, Below V3.heap.size V3 W → Below w.heap.size w W) := fun W h => (unhide HB3).trans (h.mono (unhide HB3).size)
      have HUA : Hid (∀ W O, Below V3.heap.size V3 W → Below w.heap.size w (W.alloc O)) := fun W O h => (unhide HB3).trans ((h.alloc h.size O).mono (unhide HB3).size)
      have HUD : Hid (∀ O, Below w.heap.size w (V3.alloc O).drew) := fun O => ((unhide HB3).alloc (unhide HB3).size O).drew
      have hv0 := (unhide BM3).lt
      go_region_held3 (fun w' => w'.cell? ⟨w.heap.size + 1, 0, none⟩ = some (.string m) ∧ w'.cell? ⟨w.heap.size + 1, 1, none⟩ = some (.string k)) (first | assumption | (simp [go_sem, *]; done)) ((first
        | (go_at_call 6; refine (unhide HT2 _ (by first | exact unhide HUP _ (unhide HCwb) | exact unhide HUA _ _ (unhide HCwb))).mono ?_; rintro e wd ⟨rfl, hb⟩; have HCwd : Hid (Below V3.heap.size V3 wd) := (by first | exact (unhide HCwb).trans (hb.mono (unhide HCwb).size) | exact bel_al (unhide HCwb) hb); (first | (have HZwd := hide ((unhide HZwb).later hb); clear u0 u1 uf0 uf1; have u0 := (unhide HZwd).c0; have u1 := (unhide HZwd).c1; have uf0 := (unhide HZwd).f0; have uf1 := (unhide HZwd).f1) | (have HZwd : Hid (T2 wd wb.heap.size (.string ⟨#[]⟩) (.string ⟨#[]⟩)) := (by first | exact T2.past hb | exact T2.pastD hb); have u0 := (unhide HZwd).c0; have u1 := (unhide HZwd).c1; have uf0 := (unhide HZwd).f0; have uf1 := (unhide HZwd).f1) | skip); clear hb t00 t01; have t00 := ((unhide BM3).later (unhide HCwd)).c0; have t01 := ((unhide BM3).later (unhide HCwd)).c1; have hv0wd := ((unhide BM3).later (unhide HCwd)).lt)
        | (go_at_call_of 12 b; refine (unhide HO2 _ (by first | exact unhide HUP _ (unhide HCwa) | exact unhide HUA _ _ (unhide HCwa))).mono ?_; rintro e wb ⟨rfl, hb⟩; have HCwb : Hid (Below V3.heap.size V3 wb) := (by first | exact (unhide HCwa).trans (hb.mono (unhide HCwa).size) | exact bel_al (unhide HCwa) hb); (first | (have HZwb := hide ((unhide HZwa).later hb); clear u0 u1 uf0 uf1; have u0 := (unhide HZwb).c0; have u1 := (unhide HZwb).c1; have uf0 := (unhide HZwb).f0; have uf1 := (unhide HZwb).f1) | (have HZwb : Hid (T2 wb wa.heap.size (.string ⟨#[]⟩) (.string ⟨#[]⟩)) := (by first | exact T2.past hb | exact T2.pastD hb); have u0 := (unhide HZwb).c0; have u1 := (unhide HZwb).c1; have uf0 := (unhide HZwb).f0; have uf1 := (unhide HZwb).f1) | skip); clear hb t00 t01; have t00 := ((unhide BM3).later (unhide HCwb)).c0; have t01 := ((unhide BM3).later (unhide HCwb)).c1; have hv0wb := ((unhide BM3).later (unhide HCwb)).lt)
        | (go_at_call_of 12 a; refine (unhide HO1 _ (by first | exact unhide HUP _ (unhide HC0) | exact unhide HUA _ _ (unhide HC0) | exact unhide HUD _)).mono ?_; rintro e wa ⟨rfl, hb⟩; have HCwa : Hid (Below V3.heap.size V3 wa) := (by first | exact (unhide HC0).trans (hb.mono (unhide HC0).size) | exact bel_al (unhide HC0) hb | exact bel_alD hb); (first | (have HZwa := hide ((unhide HZ0).later hb); clear u0 u1 uf0 uf1; have u0 := (unhide HZwa).c0; have u1 := (unhide HZwa).c1; have uf0 := (unhide HZwa).f0; have uf1 := (unhide HZwa).f1) | (have HZwa : Hid (T2 wa V3.heap.size (.string ⟨#[]⟩) (.string ⟨#[]⟩)) := (by first | exact T2.past hb | exact T2.pastD hb); have u0 := (unhide HZwa).c0; have u1 := (unhide HZwa).c1; have uf0 := (unhide HZwa).f0; have uf1 := (unhide HZwa).f1) | skip); clear hb t00 t01; have t00 := ((unhide BM3).later (unhide HCwa)).c0; have t01 := ((unhide BM3).later (unhide HCwa)).c1; have hv0wa := ((unhide BM3).later (unhide HCwa)).lt)))
      all_goals
        first
        | (obtain ⟨X, hX⟩ : ∃ X, X = wd.heap.size := ⟨_, rfl⟩
           obtain ⟨U, hU⟩ : ∃ U, U = wd.alloc (.cells #[.string qn, .string qd] 23) := ⟨_, rfl⟩
           have HF : Hid (T2 U X (.string qn) (.string qd) ∧ Below V3.heap.size V3 U) := by
             rw [hU, hX]
             exact ⟨⟨by simp [go_sem], by simp [go_sem], by simp [go_sem], by simp [go_sem]⟩, (unhide HCwd).alloc (unhide HCwd).size _⟩
           rw [← hU, ← hX]
           clear hU hX)
        | (obtain ⟨X, hX⟩ : ∃ X, X = wb.heap.size := ⟨_, rfl⟩
           obtain ⟨U, hU⟩ : ∃ U, U = ((wd.setCell { block := wb.heap.size, off := 0 } (.string qn)).setCell { block := wb.heap.size, off := 1 } (.string qd)) := ⟨_, rfl⟩
           have HF : Hid (T2 U X (.string qn) (.string qd) ∧ Below V3.heap.size V3 U) := by
             rw [hU, hX]
             exact ⟨(unhide HZwd).store _ _ , below_store2 (unhide HCwd) ((unhide HCwb).size) _ _ ⟩
           rw [← hU, ← hX]
           clear hU hX)
        | (obtain ⟨X, hX⟩ : ∃ X, X = wa.heap.size := ⟨_, rfl⟩
           obtain ⟨U, hU⟩ : ∃ U, U = ((wd.setCell { block := wa.heap.size, off := 0 } (.string qn)).setCell { block := wa.heap.size, off := 1 } (.string qd)) := ⟨_, rfl⟩
           have HF : Hid (T2 U X (.string qn) (.string qd) ∧ Below V3.heap.size V3 U) := by
             rw [hU, hX]
             exact ⟨(unhide HZwd).store _ _ , below_store2 (unhide HCwd) ((unhide HCwa).size) _ _ ⟩
           rw [← hU, ← hX]
           clear hU hX)
        | (obtain ⟨X, hX⟩ : ∃ X, X = V3.heap.size := ⟨_, rfl⟩
           obtain ⟨U, hU⟩ : ∃ U, U = ((wd.setCell { block := V3.heap.size, off := 0 } (.string qn)).setCell { block := V3.heap.size, off := 1 } (.string qd)) := ⟨_, rfl⟩
           have HF : Hid (T2 U X (.string qn) (.string qd) ∧ Below V3.heap.size V3 U) := by
             rw [hU, hX]
             exact ⟨(unhide HZwd).store _ _ , below_store2 (unhide HCwd) (Nat.le_refl _) _ _ ⟩
           rw [← hU, ← hX]
           clear hU hX)
      all_goals
        clear t00 t01
        go_wp2_with fail
        go_meet
        exact ⟨X, rfl, rfl, unhide HF⟩
    case rest =>
      obtain ⟨gV4, rfl, rfl, HTV4⟩ := hcut
      generalize wc = V4 at HTV4 ⊢
      have BN4 := hide ((unhide BN3).later (unhide HTV4).2)
      have BM4 := hide ((unhide BM3).later (unhide HTV4).2)
      have BP4 := hide ((unhide BP3).later (unhide HTV4).2)
      have HB4 := hide ((unhide HB3).trans (((unhide HTV4).2).mono (unhide HB3).size))
      have BQ4 := hide (unhide HTV4).1
      clear BN3 BM3 BP3 HB3
      clear HTV4
      go_wp2_with (go_at_call 10; go_must (refine (unhide HAW _ (unhide HB4)).mono ?_; rintro e V5 ⟨rfl, hb⟩; have HB5 := hide ((unhide HB4).trans (hb.mono (unhide HB4).size)); clear hb))
      go_ret
      exact ⟨rfl, unhide HB5⟩
set_option maxRecDepth 100000 in
set_option maxHeartbeats 16000000 in
theorem steps_no2 (n d m k pn pd qn qd sa sb : ByteArray) (a b ff : Int) (w : World)
    (hr1 : ∀ W, Below w.heap.size w W → Calls Tryz.prog 11 #[.agg #[.string n, .string d]] W fun r w' => r = .returned (.bool true) ∧ Below W.heap.size W w')
    (hr2 : ∀ W, Below w.heap.size w W → Calls Tryz.prog 11 #[.agg #[.string m, .string k]] W fun r w' => r = .returned (.bool true) ∧ Below W.heap.size W w')
    (ho1 : ∀ W, Below w.heap.size w W → Calls Tryz.prog 12 #[.int .i64 a] W fun r w' => r = .returned (.string sa) ∧ Below W.heap.size W w')
    (ho2 : ∀ W, Below w.heap.size w W → Calls Tryz.prog 12 #[.int .i64 b] W fun r w' => r = .returned (.string sb) ∧ Below W.heap.size W w')
    (ht1 : ∀ W, Below w.heap.size w W → Calls Tryz.prog 6 #[.agg #[.string n, .string d], .string sa, .string sb] W fun r w' => r = .returned (.tuple #[.agg #[.string pn, .string pd], .int .i64 0]) ∧ Below W.heap.size W w')
    (ht2 : ∀ W, Below w.heap.size w W → Calls Tryz.prog 6 #[.agg #[.string m, .string k], .string sa, .string sb] W fun r w' => r = .returned (.tuple #[.agg #[.string qn, .string qd], .int .i64 ff]) ∧ Below W.heap.size W w')
    (haw : ∀ W, Below w.heap.size w W → Calls Tryz.prog 10 #[] W fun r w' => r = .returned (.bool true) ∧ Below W.heap.size W w') (hf : ff ≠ 0) :
    Calls Tryz.prog 5 #[.agg #[.string n, .string d], .agg #[.string m, .string k], .int .i64 a, .int .i64 b] w fun r w' => r = .returned (.bool true) ∧ Below w.heap.size w w' := by
  obtain ⟨V, hV⟩ : ∃ V, V = (w.alloc (.cells #[.string n, .string d] 23)).alloc (.cells #[.string m, .string k] 23) := ⟨_, rfl⟩
  have BN0 : Hid (T2 V w.heap.size (.string n) (.string d)) := by rw [hV]; exact ⟨by simp [go_sem], by simp [go_sem], by simp [go_sem], by simp [go_sem]⟩
  have BM0 : Hid (T2 V (w.heap.size + 1) (.string m) (.string k)) := by rw [hV]; exact ⟨by simp [go_sem], by simp [go_sem], by simp [go_sem], by simp [go_sem]⟩
  have HB0 : Hid (Below w.heap.size w V) := by rw [hV]; exact ((Below.refl _ _).alloc (Nat.le_refl _) _).alloc (by simp) _
  have HV := hide hV
  have HR1 := hide hr1; have HR2 := hide hr2; have HO1 := hide ho1; have HO2 := hide ho2; have HT1 := hide ht1; have HT2 := hide ht2; have HAW := hide haw
  clear hV hr1 hr2 ho1 ho2 ht1 ht2 haw
  go_enter Tryz.func5, Tryz.ntmps5
  go_upto_region 1 with fail
  rw [← unhide HV]
  clear HV
  have a0 := (unhide BN0).c0; have a1 := (unhide BN0).c1; have b0 := (unhide BM0).c0; have b1 := (unhide BM0).c1
  go_upto_region 3 with (first
    | (go_at_call_of 11 (Value.agg #[Value.string n, Value.string d]); go_must (refine (unhide HR1 _ (unhide HB0)).mono ?_; rintro e V1 ⟨rfl, hb⟩; have BN1 := hide ((unhide BN0).later hb); have BM1 := hide ((unhide BM0).later hb); have HB1 := hide ((unhide HB0).trans (hb.mono (unhide HB0).size)); clear hb a0 a1 b0 b1; have a0 := (unhide BN1).c0; have a1 := (unhide BN1).c1; have b0 := (unhide BM1).c0; have b1 := (unhide BM1).c1))
    | (go_at_call_of 11 (Value.agg #[Value.string m, Value.string k]); go_must (refine (unhide HR2 _ (unhide HB1)).mono ?_; rintro e V2 ⟨rfl, hb⟩; have BN2 := hide ((unhide BN1).later hb); have BM2 := hide ((unhide BM1).later hb); have HB2 := hide ((unhide HB1).trans (hb.mono (unhide HB1).size)); clear hb a0 a1 b0 b1)))
  go_cut [9, 10] from 27 (fun s9 s10 wx => ∃ g, s9 = .pointer (some ⟨g, 0, none⟩) ∧ s10 = .int .i64 0 ∧ Hid (T2 wx g (.string pn) (.string pd) ∧ Below V2.heap.size V2 wx))
  case first =>
    have t00 := (unhide BN2).c0; have t01 := (unhide BN2).c1
    have HC0 : Hid (Below V2.heap.size V2 V2.drew) := (Below.refl _ _).drew
    have HUP : Hid (∀ W, Below V2.heap.size V2 W → Below w.heap.size w W) := fun W h => (unhide HB2).trans (h.mono (unhide HB2).size)
    have HUA : Hid (∀ W O, Below V2.heap.size V2 W → Below w.heap.size w (W.alloc O)) := fun W O h => (unhide HB2).trans ((h.alloc h.size O).mono (unhide HB2).size)
    have HUD : Hid (∀ O, Below w.heap.size w (V2.alloc O).drew) := fun O => ((unhide HB2).alloc (unhide HB2).size O).drew
    have hv0 := (unhide BN2).lt
    go_region_held3 (fun w' => w'.cell? ⟨w.heap.size, 0, none⟩ = some (.string n) ∧ w'.cell? ⟨w.heap.size, 1, none⟩ = some (.string d)) (first | assumption | (simp [go_sem, *]; done)) ((first
      | (go_at_call 6; refine (unhide HT1 _ (by first | exact unhide HUP _ (unhide HCwb) | exact unhide HUA _ _ (unhide HCwb))).mono ?_; rintro e wd ⟨rfl, hb⟩; have HCwd : Hid (Below V2.heap.size V2 wd) := (by first | exact (unhide HCwb).trans (hb.mono (unhide HCwb).size) | exact bel_al (unhide HCwb) hb); (first | (have HZwd := hide ((unhide HZwb).later hb); clear u0 u1 uf0 uf1; have u0 := (unhide HZwd).c0; have u1 := (unhide HZwd).c1; have uf0 := (unhide HZwd).f0; have uf1 := (unhide HZwd).f1) | (have HZwd : Hid (T2 wd wb.heap.size (.string ⟨#[]⟩) (.string ⟨#[]⟩)) := (by first | exact T2.past hb | exact T2.pastD hb); have u0 := (unhide HZwd).c0; have u1 := (unhide HZwd).c1; have uf0 := (unhide HZwd).f0; have uf1 := (unhide HZwd).f1) | skip); clear hb t00 t01; have t00 := ((unhide BN2).later (unhide HCwd)).c0; have t01 := ((unhide BN2).later (unhide HCwd)).c1; have hv0wd := ((unhide BN2).later (unhide HCwd)).lt)
      | (go_at_call_of 12 b; refine (unhide HO2 _ (by first | exact unhide HUP _ (unhide HCwa) | exact unhide HUA _ _ (unhide HCwa))).mono ?_; rintro e wb ⟨rfl, hb⟩; have HCwb : Hid (Below V2.heap.size V2 wb) := (by first | exact (unhide HCwa).trans (hb.mono (unhide HCwa).size) | exact bel_al (unhide HCwa) hb); (first | (have HZwb := hide ((unhide HZwa).later hb); clear u0 u1 uf0 uf1; have u0 := (unhide HZwb).c0; have u1 := (unhide HZwb).c1; have uf0 := (unhide HZwb).f0; have uf1 := (unhide HZwb).f1) | (have HZwb : Hid (T2 wb wa.heap.size (.string ⟨#[]⟩) (.string ⟨#[]⟩)) := (by first | exact T2.past hb | exact T2.pastD hb); have u0 := (unhide HZwb).c0; have u1 := (unhide HZwb).c1; have uf0 := (unhide HZwb).f0; have uf1 := (unhide HZwb).f1) | skip); clear hb t00 t01; have t00 := ((unhide BN2).later (unhide HCwb)).c0; have t01 := ((unhide BN2).later (unhide HCwb)).c1; have hv0wb := ((unhide BN2).later (unhide HCwb)).lt)
      | (go_at_call_of 12 a; refine (unhide HO1 _ (by first | exact unhide HUP _ (unhide HC0) | exact unhide HUA _ _ (unhide HC0) | exact unhide HUD _)).mono ?_; rintro e wa ⟨rfl, hb⟩; have HCwa : Hid (Below V2.heap.size V2 wa) := (by first | exact (unhide HC0).trans (hb.mono (unhide HC0).size) | exact bel_al (unhide HC0) hb | exact bel_alD hb); (first | (have HZwa := hide ((unhide HZ0).later hb); clear u0 u1 uf0 uf1; have u0 := (unhide HZwa).c0; have u1 := (unhide HZwa).c1; have uf0 := (unhide HZwa).f0; have uf1 := (unhide HZwa).f1) | (have HZwa : Hid (T2 wa V2.heap.size (.string ⟨#[]⟩) (.string ⟨#[]⟩)) := (by first | exact T2.past hb | exact T2.pastD hb); have u0 := (unhide HZwa).c0; have u1 := (unhide HZwa).c1; have uf0 := (unhide HZwa).f0; have uf1 := (unhide HZwa).f1) | skip); clear hb t00 t01; have t00 := ((unhide BN2).later (unhide HCwa)).c0; have t01 := ((unhide BN2).later (unhide HCwa)).c1; have hv0wa := ((unhide BN2).later (unhide HCwa)).lt)))
    all_goals
      first
      | (obtain ⟨X, hX⟩ : ∃ X, X = wd.heap.size := ⟨_, rfl⟩
         obtain ⟨U, hU⟩ : ∃ U, U = wd.alloc (.cells #[.string pn, .string pd] 23) := ⟨_, rfl⟩
         have HF : Hid (T2 U X (.string pn) (.string pd) ∧ Below V2.heap.size V2 U) := by
           rw [hU, hX]
           exact ⟨⟨by simp [go_sem], by simp [go_sem], by simp [go_sem], by simp [go_sem]⟩, (unhide HCwd).alloc (unhide HCwd).size _⟩
         rw [← hU, ← hX]
         clear hU hX)
      | (obtain ⟨X, hX⟩ : ∃ X, X = wb.heap.size := ⟨_, rfl⟩
         obtain ⟨U, hU⟩ : ∃ U, U = ((wd.setCell { block := wb.heap.size, off := 0 } (.string pn)).setCell { block := wb.heap.size, off := 1 } (.string pd)) := ⟨_, rfl⟩
         have HF : Hid (T2 U X (.string pn) (.string pd) ∧ Below V2.heap.size V2 U) := by
           rw [hU, hX]
           exact ⟨(unhide HZwd).store _ _ , below_store2 (unhide HCwd) ((unhide HCwb).size) _ _ ⟩
         rw [← hU, ← hX]
         clear hU hX)
      | (obtain ⟨X, hX⟩ : ∃ X, X = wa.heap.size := ⟨_, rfl⟩
         obtain ⟨U, hU⟩ : ∃ U, U = ((wd.setCell { block := wa.heap.size, off := 0 } (.string pn)).setCell { block := wa.heap.size, off := 1 } (.string pd)) := ⟨_, rfl⟩
         have HF : Hid (T2 U X (.string pn) (.string pd) ∧ Below V2.heap.size V2 U) := by
           rw [hU, hX]
           exact ⟨(unhide HZwd).store _ _ , below_store2 (unhide HCwd) ((unhide HCwa).size) _ _ ⟩
         rw [← hU, ← hX]
         clear hU hX)
      | (obtain ⟨X, hX⟩ : ∃ X, X = V2.heap.size := ⟨_, rfl⟩
         obtain ⟨U, hU⟩ : ∃ U, U = ((wd.setCell { block := V2.heap.size, off := 0 } (.string pn)).setCell { block := V2.heap.size, off := 1 } (.string pd)) := ⟨_, rfl⟩
         have HF : Hid (T2 U X (.string pn) (.string pd) ∧ Below V2.heap.size V2 U) := by
           rw [hU, hX]
           exact ⟨(unhide HZwd).store _ _ , below_store2 (unhide HCwd) (Nat.le_refl _) _ _ ⟩
         rw [← hU, ← hX]
         clear hU hX)
    all_goals
      clear t00 t01
      go_wp2_with fail
      go_meet
      exact ⟨X, rfl, rfl, unhide HF⟩
  case rest =>
    obtain ⟨gV3, rfl, rfl, HTV3⟩ := hcut
    generalize wc = V3 at HTV3 ⊢
    have BN3 := hide ((unhide BN2).later (unhide HTV3).2)
    have BM3 := hide ((unhide BM2).later (unhide HTV3).2)
    have HB3 := hide ((unhide HB2).trans (((unhide HTV3).2).mono (unhide HB2).size))
    have BP3 := hide (unhide HTV3).1
    clear BN2 BM2 HB2
    clear HTV3
    go_upto_region 4 with fail
    go_cut [11, 12] from 27 (fun s9 s10 wx => ∃ g, s9 = .pointer (some ⟨g, 0, none⟩) ∧ s10 = .int .i64 ff ∧ Hid (T2 wx g (.string qn) (.string qd) ∧ Below V3.heap.size V3 wx))
    case first =>
      have t00 := (unhide BM3).c0; have t01 := (unhide BM3).c1
      have HC0 : Hid (Below V3.heap.size V3 V3.drew) := (Below.refl _ _).drew
      have HUP : Hid (∀ W, Below V3.heap.size V3 W → Below w.heap.size w W) := fun W h => (unhide HB3).trans (h.mono (unhide HB3).size)
      have HUA : Hid (∀ W O, Below V3.heap.size V3 W → Below w.heap.size w (W.alloc O)) := fun W O h => (unhide HB3).trans ((h.alloc h.size O).mono (unhide HB3).size)
      have HUD : Hid (∀ O, Below w.heap.size w (V3.alloc O).drew) := fun O => ((unhide HB3).alloc (unhide HB3).size O).drew
      have hv0 := (unhide BM3).lt
      go_region_held3 (fun w' => w'.cell? ⟨w.heap.size + 1, 0, none⟩ = some (.string m) ∧ w'.cell? ⟨w.heap.size + 1, 1, none⟩ = some (.string k)) (first | assumption | (simp [go_sem, *]; done)) ((first
        | (go_at_call 6; refine (unhide HT2 _ (by first | exact unhide HUP _ (unhide HCwb) | exact unhide HUA _ _ (unhide HCwb))).mono ?_; rintro e wd ⟨rfl, hb⟩; have HCwd : Hid (Below V3.heap.size V3 wd) := (by first | exact (unhide HCwb).trans (hb.mono (unhide HCwb).size) | exact bel_al (unhide HCwb) hb); (first | (have HZwd := hide ((unhide HZwb).later hb); clear u0 u1 uf0 uf1; have u0 := (unhide HZwd).c0; have u1 := (unhide HZwd).c1; have uf0 := (unhide HZwd).f0; have uf1 := (unhide HZwd).f1) | (have HZwd : Hid (T2 wd wb.heap.size (.string ⟨#[]⟩) (.string ⟨#[]⟩)) := (by first | exact T2.past hb | exact T2.pastD hb); have u0 := (unhide HZwd).c0; have u1 := (unhide HZwd).c1; have uf0 := (unhide HZwd).f0; have uf1 := (unhide HZwd).f1) | skip); clear hb t00 t01; have t00 := ((unhide BM3).later (unhide HCwd)).c0; have t01 := ((unhide BM3).later (unhide HCwd)).c1; have hv0wd := ((unhide BM3).later (unhide HCwd)).lt)
        | (go_at_call_of 12 b; refine (unhide HO2 _ (by first | exact unhide HUP _ (unhide HCwa) | exact unhide HUA _ _ (unhide HCwa))).mono ?_; rintro e wb ⟨rfl, hb⟩; have HCwb : Hid (Below V3.heap.size V3 wb) := (by first | exact (unhide HCwa).trans (hb.mono (unhide HCwa).size) | exact bel_al (unhide HCwa) hb); (first | (have HZwb := hide ((unhide HZwa).later hb); clear u0 u1 uf0 uf1; have u0 := (unhide HZwb).c0; have u1 := (unhide HZwb).c1; have uf0 := (unhide HZwb).f0; have uf1 := (unhide HZwb).f1) | (have HZwb : Hid (T2 wb wa.heap.size (.string ⟨#[]⟩) (.string ⟨#[]⟩)) := (by first | exact T2.past hb | exact T2.pastD hb); have u0 := (unhide HZwb).c0; have u1 := (unhide HZwb).c1; have uf0 := (unhide HZwb).f0; have uf1 := (unhide HZwb).f1) | skip); clear hb t00 t01; have t00 := ((unhide BM3).later (unhide HCwb)).c0; have t01 := ((unhide BM3).later (unhide HCwb)).c1; have hv0wb := ((unhide BM3).later (unhide HCwb)).lt)
        | (go_at_call_of 12 a; refine (unhide HO1 _ (by first | exact unhide HUP _ (unhide HC0) | exact unhide HUA _ _ (unhide HC0) | exact unhide HUD _)).mono ?_; rintro e wa ⟨rfl, hb⟩; have HCwa : Hid (Below V3.heap.size V3 wa) := (by first | exact (unhide HC0).trans (hb.mono (unhide HC0).size) | exact bel_al (unhide HC0) hb | exact bel_alD hb); (first | (have HZwa := hide ((unhide HZ0).later hb); clear u0 u1 uf0 uf1; have u0 := (unhide HZwa).c0; have u1 := (unhide HZwa).c1; have uf0 := (unhide HZwa).f0; have uf1 := (unhide HZwa).f1) | (have HZwa : Hid (T2 wa V3.heap.size (.string ⟨#[]⟩) (.string ⟨#[]⟩)) := (by first | exact T2.past hb | exact T2.pastD hb); have u0 := (unhide HZwa).c0; have u1 := (unhide HZwa).c1; have uf0 := (unhide HZwa).f0; have uf1 := (unhide HZwa).f1) | skip); clear hb t00 t01; have t00 := ((unhide BM3).later (unhide HCwa)).c0; have t01 := ((unhide BM3).later (unhide HCwa)).c1; have hv0wa := ((unhide BM3).later (unhide HCwa)).lt)))
      all_goals
        first
        | (obtain ⟨X, hX⟩ : ∃ X, X = wd.heap.size := ⟨_, rfl⟩
           obtain ⟨U, hU⟩ : ∃ U, U = wd.alloc (.cells #[.string qn, .string qd] 23) := ⟨_, rfl⟩
           have HF : Hid (T2 U X (.string qn) (.string qd) ∧ Below V3.heap.size V3 U) := by
             rw [hU, hX]
             exact ⟨⟨by simp [go_sem], by simp [go_sem], by simp [go_sem], by simp [go_sem]⟩, (unhide HCwd).alloc (unhide HCwd).size _⟩
           rw [← hU, ← hX]
           clear hU hX)
        | (obtain ⟨X, hX⟩ : ∃ X, X = wb.heap.size := ⟨_, rfl⟩
           obtain ⟨U, hU⟩ : ∃ U, U = ((wd.setCell { block := wb.heap.size, off := 0 } (.string qn)).setCell { block := wb.heap.size, off := 1 } (.string qd)) := ⟨_, rfl⟩
           have HF : Hid (T2 U X (.string qn) (.string qd) ∧ Below V3.heap.size V3 U) := by
             rw [hU, hX]
             exact ⟨(unhide HZwd).store _ _ , below_store2 (unhide HCwd) ((unhide HCwb).size) _ _ ⟩
           rw [← hU, ← hX]
           clear hU hX)
        | (obtain ⟨X, hX⟩ : ∃ X, X = wa.heap.size := ⟨_, rfl⟩
           obtain ⟨U, hU⟩ : ∃ U, U = ((wd.setCell { block := wa.heap.size, off := 0 } (.string qn)).setCell { block := wa.heap.size, off := 1 } (.string qd)) := ⟨_, rfl⟩
           have HF : Hid (T2 U X (.string qn) (.string qd) ∧ Below V3.heap.size V3 U) := by
             rw [hU, hX]
             exact ⟨(unhide HZwd).store _ _ , below_store2 (unhide HCwd) ((unhide HCwa).size) _ _ ⟩
           rw [← hU, ← hX]
           clear hU hX)
        | (obtain ⟨X, hX⟩ : ∃ X, X = V3.heap.size := ⟨_, rfl⟩
           obtain ⟨U, hU⟩ : ∃ U, U = ((wd.setCell { block := V3.heap.size, off := 0 } (.string qn)).setCell { block := V3.heap.size, off := 1 } (.string qd)) := ⟨_, rfl⟩
           have HF : Hid (T2 U X (.string qn) (.string qd) ∧ Below V3.heap.size V3 U) := by
             rw [hU, hX]
             exact ⟨(unhide HZwd).store _ _ , below_store2 (unhide HCwd) (Nat.le_refl _) _ _ ⟩
           rw [← hU, ← hX]
           clear hU hX)
      all_goals
        clear t00 t01
        go_wp2_with fail
        go_meet
        exact ⟨X, rfl, rfl, unhide HF⟩
    case rest =>
      obtain ⟨gV4, rfl, rfl, HTV4⟩ := hcut
      generalize wc = V4 at HTV4 ⊢
      have BN4 := hide ((unhide BN3).later (unhide HTV4).2)
      have BM4 := hide ((unhide BM3).later (unhide HTV4).2)
      have BP4 := hide ((unhide BP3).later (unhide HTV4).2)
      have HB4 := hide ((unhide HB3).trans (((unhide HTV4).2).mono (unhide HB3).size))
      have BQ4 := hide (unhide HTV4).1
      clear BN3 BM3 BP3 HB3
      clear HTV4
      go_wp2_with (go_at_call 10; go_must (refine (unhide HAW _ (unhide HB4)).mono ?_; rintro e V5 ⟨rfl, hb⟩; have HB5 := hide ((unhide HB4).trans (hb.mono (unhide HB4).size)); clear hb))
      go_ret
      exact ⟨rfl, unhide HB5⟩
end Go.Proofs.YtimihoonnglniaaGreatDoor
