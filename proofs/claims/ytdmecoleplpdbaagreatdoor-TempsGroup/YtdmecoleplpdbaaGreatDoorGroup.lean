/- TempsGroup, walked. -/
import Derived.Test.YtdmecoleplpdbaaGreatDoorAwake
import Derived.Deep.RegionHeld3
import Derived.Deep.Cut
namespace Go.Proofs.YtdmecoleplpdbaaGreatDoor
open Go.RowKit
set_option maxRecDepth 100000 in
set_option maxHeartbeats 8000000 in
theorem group_no9 (n d yn yd zn zd sa sb sc : ByteArray) (a b c : Int) (w : World)
    (hr : ∀ W, Below w.heap.size w W → Calls Tryz.prog 11 #[.agg #[.string n, .string d]] W fun r w' => r = .returned (.bool true) ∧ Below W.heap.size W w')
    (ho1 : ∀ W, Below w.heap.size w W → Calls Tryz.prog 12 #[.int .i64 a] W fun r w' => r = .returned (.string sa) ∧ Below W.heap.size W w')
    (ho2 : ∀ W, Below w.heap.size w W → Calls Tryz.prog 12 #[.int .i64 b] W fun r w' => r = .returned (.string sb) ∧ Below W.heap.size W w')
    (ho3 : ∀ W, Below w.heap.size w W → Calls Tryz.prog 12 #[.int .i64 c] W fun r w' => r = .returned (.string sc) ∧ Below W.heap.size W w')
    (ht1 : ∀ W, Below w.heap.size w W → Calls Tryz.prog 6 #[.agg #[.string n, .string d], .string sa, .string sb] W fun r w' => r = .returned (.tuple #[.agg #[.string yn, .string yd], .int .i64 9]) ∧ Below W.heap.size W w')
    (ht2 : ∀ W, Below w.heap.size w W → Calls Tryz.prog 6 #[.agg #[.string n, .string d], .string sa, .string sc] W fun r w' => r = .returned (.tuple #[.agg #[.string zn, .string zd], .int .i64 9]) ∧ Below W.heap.size W w')
    (haw : ∀ W, Below w.heap.size w W → Calls Tryz.prog 10 #[] W fun r w' => r = .returned (.bool true) ∧ Below W.heap.size W w')  :
    Calls Tryz.prog 4 #[.agg #[.string n, .string d], .int .i64 a, .int .i64 b, .int .i64 c] w fun r w' => r = .returned (.bool true) ∧ Below w.heap.size w w' := by
  obtain ⟨V, hV⟩ : ∃ V, V = w.alloc (.cells #[.string n, .string d] 23) := ⟨_, rfl⟩
  have HN : Hid (T2 V w.heap.size (.string n) (.string d)) := by rw [hV]; exact ⟨by simp [go_sem], by simp [go_sem], by simp [go_sem], by simp [go_sem]⟩
  have HB : Hid (Below w.heap.size w V) := by rw [hV]; exact (Below.refl _ _).alloc (Nat.le_refl _) _
  have HV := hide hV
  have HR := hide hr; have HO1 := hide ho1; have HO2 := hide ho2; have HO3 := hide ho3; have HT1 := hide ht1; have HT2 := hide ht2; have HAW := hide haw
  clear hV hr ho1 ho2 ho3 ht1 ht2 haw
  go_enter Tryz.func4, Tryz.ntmps4
  go_upto_region 1 with fail
  rw [← unhide HV]
  clear HV
  have q0 := (unhide HN).c0; have q1 := (unhide HN).c1
  go_upto_region 3 with (go_at_call 11; go_must (refine (unhide HR _ (unhide HB)).mono ?_; rintro e V1 ⟨rfl, hb1⟩; have HN1 := hide ((unhide HN).later hb1); have HB1 := hide ((unhide HB).trans (hb1.mono (unhide HB).size)); clear hb1 q0 q1))
  clear HN HB
  go_cut [9, 10] from 21 (fun s9 s10 wx => ∃ g, s9 = .pointer (some ⟨g, 0, none⟩) ∧ s10 = .int .i64 9 ∧ Hid (T2 wx g (.string yn) (.string yd) ∧ Below V1.heap.size V1 wx))
  case first =>
    have HP := HN1
    have t0 := (unhide HP).c0; have t1 := (unhide HP).c1
    have HC0 : Hid (Below V1.heap.size V1 V1.drew) := (Below.refl _ _).drew
    have HUP : Hid (∀ W, Below V1.heap.size V1 W → Below w.heap.size w W) := fun W h => (unhide HB1).trans (h.mono (unhide HB1).size)
    have HUA : Hid (∀ W O, Below V1.heap.size V1 W → Below w.heap.size w (W.alloc O)) := fun W O h => (unhide HB1).trans ((h.alloc h.size O).mono (unhide HB1).size)
    have HUD : Hid (∀ O, Below w.heap.size w (V1.alloc O).drew) := fun O => ((unhide HB1).alloc (unhide HB1).size O).drew
    have hv0 := (unhide HP).lt
    go_region_held3 (fun w' => w'.cell? ⟨w.heap.size, 0, none⟩ = some (.string n) ∧ w'.cell? ⟨w.heap.size, 1, none⟩ = some (.string d)) (first | assumption | (simp [go_sem, *]; done)) ((first
      | (go_at_call 6; refine (unhide HT1 _ (by first | exact unhide HUP _ (unhide HCwb) | exact unhide HUA _ _ (unhide HCwb))).mono ?_; rintro e wd ⟨rfl, hb⟩; have HCwd : Hid (Below V1.heap.size V1 wd) := (by first | exact (unhide HCwb).trans (hb.mono (unhide HCwb).size) | exact bel_al (unhide HCwb) hb); (first | (have HZwd := hide ((unhide HZwb).later hb); clear u0 u1 uf0 uf1; have u0 := (unhide HZwd).c0; have u1 := (unhide HZwd).c1; have uf0 := (unhide HZwd).f0; have uf1 := (unhide HZwd).f1) | (have HZwd : Hid (T2 wd wb.heap.size (.string ⟨#[]⟩) (.string ⟨#[]⟩)) := (by first | exact T2.past hb | exact T2.pastD hb); have u0 := (unhide HZwd).c0; have u1 := (unhide HZwd).c1; have uf0 := (unhide HZwd).f0; have uf1 := (unhide HZwd).f1) | skip); clear hb t0 t1; have t0 := ((unhide HP).later (unhide HCwd)).c0; have t1 := ((unhide HP).later (unhide HCwd)).c1; have hvwd := ((unhide HP).later (unhide HCwd)).lt)
      | (go_at_call_of 12 b; refine (unhide HO2 _ (by first | exact unhide HUP _ (unhide HCwa) | exact unhide HUA _ _ (unhide HCwa))).mono ?_; rintro e wb ⟨rfl, hb⟩; have HCwb : Hid (Below V1.heap.size V1 wb) := (by first | exact (unhide HCwa).trans (hb.mono (unhide HCwa).size) | exact bel_al (unhide HCwa) hb); (first | (have HZwb := hide ((unhide HZwa).later hb); clear u0 u1 uf0 uf1; have u0 := (unhide HZwb).c0; have u1 := (unhide HZwb).c1; have uf0 := (unhide HZwb).f0; have uf1 := (unhide HZwb).f1) | (have HZwb : Hid (T2 wb wa.heap.size (.string ⟨#[]⟩) (.string ⟨#[]⟩)) := (by first | exact T2.past hb | exact T2.pastD hb); have u0 := (unhide HZwb).c0; have u1 := (unhide HZwb).c1; have uf0 := (unhide HZwb).f0; have uf1 := (unhide HZwb).f1) | skip); clear hb t0 t1; have t0 := ((unhide HP).later (unhide HCwb)).c0; have t1 := ((unhide HP).later (unhide HCwb)).c1; have hvwb := ((unhide HP).later (unhide HCwb)).lt)
      | (go_at_call_of 12 a; refine (unhide HO1 _ (by first | exact unhide HUP _ (unhide HC0) | exact unhide HUA _ _ (unhide HC0) | exact unhide HUD _)).mono ?_; rintro e wa ⟨rfl, hb⟩; have HCwa : Hid (Below V1.heap.size V1 wa) := (by first | exact (unhide HC0).trans (hb.mono (unhide HC0).size) | exact bel_al (unhide HC0) hb | exact bel_alD hb); (first | (have HZwa := hide ((unhide HZ0).later hb); clear u0 u1 uf0 uf1; have u0 := (unhide HZwa).c0; have u1 := (unhide HZwa).c1; have uf0 := (unhide HZwa).f0; have uf1 := (unhide HZwa).f1) | (have HZwa : Hid (T2 wa V1.heap.size (.string ⟨#[]⟩) (.string ⟨#[]⟩)) := (by first | exact T2.past hb | exact T2.pastD hb); have u0 := (unhide HZwa).c0; have u1 := (unhide HZwa).c1; have uf0 := (unhide HZwa).f0; have uf1 := (unhide HZwa).f1) | skip); clear hb t0 t1; have t0 := ((unhide HP).later (unhide HCwa)).c0; have t1 := ((unhide HP).later (unhide HCwa)).c1; have hvwa := ((unhide HP).later (unhide HCwa)).lt)))
    all_goals
      first
      | (obtain ⟨X, hX⟩ : ∃ X, X = wd.heap.size := ⟨_, rfl⟩
         obtain ⟨U, hU⟩ : ∃ U, U = wd.alloc (.cells #[.string yn, .string yd] 23) := ⟨_, rfl⟩
         have HF : Hid (T2 U X (.string yn) (.string yd) ∧ Below V1.heap.size V1 U) := by
           rw [hU, hX]
           exact ⟨⟨by simp [go_sem], by simp [go_sem], by simp [go_sem], by simp [go_sem]⟩, (unhide HCwd).alloc (unhide HCwd).size _⟩
         rw [← hU, ← hX]
         clear hU hX)
      | (obtain ⟨X, hX⟩ : ∃ X, X = wb.heap.size := ⟨_, rfl⟩
         obtain ⟨U, hU⟩ : ∃ U, U = (wd.setCell { block := wb.heap.size, off := 0 } (.string yn)).setCell { block := wb.heap.size, off := 1 } (.string yd) := ⟨_, rfl⟩
         have HF : Hid (T2 U X (.string yn) (.string yd) ∧ Below V1.heap.size V1 U) := by
           rw [hU, hX]
           exact ⟨(unhide HZwd).store _ _, below_store2 (unhide HCwd) ((unhide HCwb).size) _ _⟩
         rw [← hU, ← hX]
         clear hU hX)
      | (obtain ⟨X, hX⟩ : ∃ X, X = wa.heap.size := ⟨_, rfl⟩
         obtain ⟨U, hU⟩ : ∃ U, U = (wd.setCell { block := wa.heap.size, off := 0 } (.string yn)).setCell { block := wa.heap.size, off := 1 } (.string yd) := ⟨_, rfl⟩
         have HF : Hid (T2 U X (.string yn) (.string yd) ∧ Below V1.heap.size V1 U) := by
           rw [hU, hX]
           exact ⟨(unhide HZwd).store _ _, below_store2 (unhide HCwd) ((unhide HCwa).size) _ _⟩
         rw [← hU, ← hX]
         clear hU hX)
      | (obtain ⟨X, hX⟩ : ∃ X, X = V1.heap.size := ⟨_, rfl⟩
         obtain ⟨U, hU⟩ : ∃ U, U = (wd.setCell { block := V1.heap.size, off := 0 } (.string yn)).setCell { block := V1.heap.size, off := 1 } (.string yd) := ⟨_, rfl⟩
         have HF : Hid (T2 U X (.string yn) (.string yd) ∧ Below V1.heap.size V1 U) := by
           rw [hU, hX]
           exact ⟨(unhide HZwd).store _ _, below_store2 (unhide HCwd) (Nat.le_refl _) _ _⟩
         rw [← hU, ← hX]
         clear hU hX)
    all_goals
      clear t0 t1
      go_wp2_with fail
      go_meet
      exact ⟨X, rfl, rfl, unhide HF⟩
  case rest =>
    obtain ⟨gV2, rfl, rfl, HTV2⟩ := hcut
    generalize wc = V2 at HTV2 ⊢
    have HN2 := hide ((unhide HN1).later (unhide HTV2).2); have HB2 := hide ((unhide HB1).trans ((unhide HTV2).2.mono (unhide HB1).size))
    have HY2 := hide (unhide HTV2).1
    clear HTV2 HN1 HB1
    go_upto_region 4 with fail
    go_cut [11, 12] from 21 (fun s9 s10 wx => ∃ g, s9 = .pointer (some ⟨g, 0, none⟩) ∧ s10 = .int .i64 9 ∧ Hid (T2 wx g (.string zn) (.string zd) ∧ Below V2.heap.size V2 wx))
    case first =>
      have HP := HN2
      have t0 := (unhide HP).c0; have t1 := (unhide HP).c1
      have HC0 : Hid (Below V2.heap.size V2 V2.drew) := (Below.refl _ _).drew
      have HUP : Hid (∀ W, Below V2.heap.size V2 W → Below w.heap.size w W) := fun W h => (unhide HB2).trans (h.mono (unhide HB2).size)
      have HUA : Hid (∀ W O, Below V2.heap.size V2 W → Below w.heap.size w (W.alloc O)) := fun W O h => (unhide HB2).trans ((h.alloc h.size O).mono (unhide HB2).size)
      have HUD : Hid (∀ O, Below w.heap.size w (V2.alloc O).drew) := fun O => ((unhide HB2).alloc (unhide HB2).size O).drew
      have hv0 := (unhide HP).lt
      go_region_held3 (fun w' => w'.cell? ⟨w.heap.size, 0, none⟩ = some (.string n) ∧ w'.cell? ⟨w.heap.size, 1, none⟩ = some (.string d)) (first | assumption | (simp [go_sem, *]; done)) ((first
        | (go_at_call 6; refine (unhide HT2 _ (by first | exact unhide HUP _ (unhide HCwb) | exact unhide HUA _ _ (unhide HCwb))).mono ?_; rintro e wd ⟨rfl, hb⟩; have HCwd : Hid (Below V2.heap.size V2 wd) := (by first | exact (unhide HCwb).trans (hb.mono (unhide HCwb).size) | exact bel_al (unhide HCwb) hb); (first | (have HZwd := hide ((unhide HZwb).later hb); clear u0 u1 uf0 uf1; have u0 := (unhide HZwd).c0; have u1 := (unhide HZwd).c1; have uf0 := (unhide HZwd).f0; have uf1 := (unhide HZwd).f1) | (have HZwd : Hid (T2 wd wb.heap.size (.string ⟨#[]⟩) (.string ⟨#[]⟩)) := (by first | exact T2.past hb | exact T2.pastD hb); have u0 := (unhide HZwd).c0; have u1 := (unhide HZwd).c1; have uf0 := (unhide HZwd).f0; have uf1 := (unhide HZwd).f1) | skip); clear hb t0 t1; have t0 := ((unhide HP).later (unhide HCwd)).c0; have t1 := ((unhide HP).later (unhide HCwd)).c1; have hvwd := ((unhide HP).later (unhide HCwd)).lt)
        | (go_at_call_of 12 c; refine (unhide HO3 _ (by first | exact unhide HUP _ (unhide HCwa) | exact unhide HUA _ _ (unhide HCwa))).mono ?_; rintro e wb ⟨rfl, hb⟩; have HCwb : Hid (Below V2.heap.size V2 wb) := (by first | exact (unhide HCwa).trans (hb.mono (unhide HCwa).size) | exact bel_al (unhide HCwa) hb); (first | (have HZwb := hide ((unhide HZwa).later hb); clear u0 u1 uf0 uf1; have u0 := (unhide HZwb).c0; have u1 := (unhide HZwb).c1; have uf0 := (unhide HZwb).f0; have uf1 := (unhide HZwb).f1) | (have HZwb : Hid (T2 wb wa.heap.size (.string ⟨#[]⟩) (.string ⟨#[]⟩)) := (by first | exact T2.past hb | exact T2.pastD hb); have u0 := (unhide HZwb).c0; have u1 := (unhide HZwb).c1; have uf0 := (unhide HZwb).f0; have uf1 := (unhide HZwb).f1) | skip); clear hb t0 t1; have t0 := ((unhide HP).later (unhide HCwb)).c0; have t1 := ((unhide HP).later (unhide HCwb)).c1; have hvwb := ((unhide HP).later (unhide HCwb)).lt)
        | (go_at_call_of 12 a; refine (unhide HO1 _ (by first | exact unhide HUP _ (unhide HC0) | exact unhide HUA _ _ (unhide HC0) | exact unhide HUD _)).mono ?_; rintro e wa ⟨rfl, hb⟩; have HCwa : Hid (Below V2.heap.size V2 wa) := (by first | exact (unhide HC0).trans (hb.mono (unhide HC0).size) | exact bel_al (unhide HC0) hb | exact bel_alD hb); (first | (have HZwa := hide ((unhide HZ0).later hb); clear u0 u1 uf0 uf1; have u0 := (unhide HZwa).c0; have u1 := (unhide HZwa).c1; have uf0 := (unhide HZwa).f0; have uf1 := (unhide HZwa).f1) | (have HZwa : Hid (T2 wa V2.heap.size (.string ⟨#[]⟩) (.string ⟨#[]⟩)) := (by first | exact T2.past hb | exact T2.pastD hb); have u0 := (unhide HZwa).c0; have u1 := (unhide HZwa).c1; have uf0 := (unhide HZwa).f0; have uf1 := (unhide HZwa).f1) | skip); clear hb t0 t1; have t0 := ((unhide HP).later (unhide HCwa)).c0; have t1 := ((unhide HP).later (unhide HCwa)).c1; have hvwa := ((unhide HP).later (unhide HCwa)).lt)))
      all_goals
        first
        | (obtain ⟨X, hX⟩ : ∃ X, X = wd.heap.size := ⟨_, rfl⟩
           obtain ⟨U, hU⟩ : ∃ U, U = wd.alloc (.cells #[.string zn, .string zd] 23) := ⟨_, rfl⟩
           have HF : Hid (T2 U X (.string zn) (.string zd) ∧ Below V2.heap.size V2 U) := by
             rw [hU, hX]
             exact ⟨⟨by simp [go_sem], by simp [go_sem], by simp [go_sem], by simp [go_sem]⟩, (unhide HCwd).alloc (unhide HCwd).size _⟩
           rw [← hU, ← hX]
           clear hU hX)
        | (obtain ⟨X, hX⟩ : ∃ X, X = wb.heap.size := ⟨_, rfl⟩
           obtain ⟨U, hU⟩ : ∃ U, U = (wd.setCell { block := wb.heap.size, off := 0 } (.string zn)).setCell { block := wb.heap.size, off := 1 } (.string zd) := ⟨_, rfl⟩
           have HF : Hid (T2 U X (.string zn) (.string zd) ∧ Below V2.heap.size V2 U) := by
             rw [hU, hX]
             exact ⟨(unhide HZwd).store _ _, below_store2 (unhide HCwd) ((unhide HCwb).size) _ _⟩
           rw [← hU, ← hX]
           clear hU hX)
        | (obtain ⟨X, hX⟩ : ∃ X, X = wa.heap.size := ⟨_, rfl⟩
           obtain ⟨U, hU⟩ : ∃ U, U = (wd.setCell { block := wa.heap.size, off := 0 } (.string zn)).setCell { block := wa.heap.size, off := 1 } (.string zd) := ⟨_, rfl⟩
           have HF : Hid (T2 U X (.string zn) (.string zd) ∧ Below V2.heap.size V2 U) := by
             rw [hU, hX]
             exact ⟨(unhide HZwd).store _ _, below_store2 (unhide HCwd) ((unhide HCwa).size) _ _⟩
           rw [← hU, ← hX]
           clear hU hX)
        | (obtain ⟨X, hX⟩ : ∃ X, X = V2.heap.size := ⟨_, rfl⟩
           obtain ⟨U, hU⟩ : ∃ U, U = (wd.setCell { block := V2.heap.size, off := 0 } (.string zn)).setCell { block := V2.heap.size, off := 1 } (.string zd) := ⟨_, rfl⟩
           have HF : Hid (T2 U X (.string zn) (.string zd) ∧ Below V2.heap.size V2 U) := by
             rw [hU, hX]
             exact ⟨(unhide HZwd).store _ _, below_store2 (unhide HCwd) (Nat.le_refl _) _ _⟩
           rw [← hU, ← hX]
           clear hU hX)
      all_goals
        clear t0 t1
        go_wp2_with fail
        go_meet
        exact ⟨X, rfl, rfl, unhide HF⟩
    case rest =>
      obtain ⟨gV3, rfl, rfl, HTV3⟩ := hcut
      generalize wc = V3 at HTV3 ⊢
      have HN3 := hide ((unhide HN2).later (unhide HTV3).2); have HB3 := hide ((unhide HB2).trans ((unhide HTV3).2.mono (unhide HB2).size))
      have HY3 := hide ((unhide HY2).later (unhide HTV3).2); have HZ3 := hide (unhide HTV3).1
      clear HTV3 HN2 HB2 HY2
      go_wp2_with (go_at_call 10; go_must (refine (unhide HAW _ (unhide HB3)).mono ?_; rintro e w9 ⟨rfl, hb9⟩; have HB9 := hide ((unhide HB3).trans (hb9.mono (unhide HB3).size)); clear hb9))
      go_ret
      exact ⟨rfl, unhide HB9⟩
set_option maxRecDepth 100000 in
set_option maxHeartbeats 8000000 in
theorem group_no7 (n d yn yd zn zd sa sb sc : ByteArray) (a b c ff : Int) (w : World)
    (hr : ∀ W, Below w.heap.size w W → Calls Tryz.prog 11 #[.agg #[.string n, .string d]] W fun r w' => r = .returned (.bool true) ∧ Below W.heap.size W w')
    (ho1 : ∀ W, Below w.heap.size w W → Calls Tryz.prog 12 #[.int .i64 a] W fun r w' => r = .returned (.string sa) ∧ Below W.heap.size W w')
    (ho2 : ∀ W, Below w.heap.size w W → Calls Tryz.prog 12 #[.int .i64 b] W fun r w' => r = .returned (.string sb) ∧ Below W.heap.size W w')
    (ho3 : ∀ W, Below w.heap.size w W → Calls Tryz.prog 12 #[.int .i64 c] W fun r w' => r = .returned (.string sc) ∧ Below W.heap.size W w')
    (ht1 : ∀ W, Below w.heap.size w W → Calls Tryz.prog 6 #[.agg #[.string n, .string d], .string sa, .string sb] W fun r w' => r = .returned (.tuple #[.agg #[.string yn, .string yd], .int .i64 7]) ∧ Below W.heap.size W w')
    (ht2 : ∀ W, Below w.heap.size w W → Calls Tryz.prog 6 #[.agg #[.string n, .string d], .string sa, .string sc] W fun r w' => r = .returned (.tuple #[.agg #[.string zn, .string zd], .int .i64 ff]) ∧ Below W.heap.size W w')
    (haw : ∀ W, Below w.heap.size w W → Calls Tryz.prog 10 #[] W fun r w' => r = .returned (.bool true) ∧ Below W.heap.size W w') (hf : ff ≠ 9) :
    Calls Tryz.prog 4 #[.agg #[.string n, .string d], .int .i64 a, .int .i64 b, .int .i64 c] w fun r w' => r = .returned (.bool true) ∧ Below w.heap.size w w' := by
  obtain ⟨V, hV⟩ : ∃ V, V = w.alloc (.cells #[.string n, .string d] 23) := ⟨_, rfl⟩
  have HN : Hid (T2 V w.heap.size (.string n) (.string d)) := by rw [hV]; exact ⟨by simp [go_sem], by simp [go_sem], by simp [go_sem], by simp [go_sem]⟩
  have HB : Hid (Below w.heap.size w V) := by rw [hV]; exact (Below.refl _ _).alloc (Nat.le_refl _) _
  have HV := hide hV
  have HR := hide hr; have HO1 := hide ho1; have HO2 := hide ho2; have HO3 := hide ho3; have HT1 := hide ht1; have HT2 := hide ht2; have HAW := hide haw
  clear hV hr ho1 ho2 ho3 ht1 ht2 haw
  go_enter Tryz.func4, Tryz.ntmps4
  go_upto_region 1 with fail
  rw [← unhide HV]
  clear HV
  have q0 := (unhide HN).c0; have q1 := (unhide HN).c1
  go_upto_region 3 with (go_at_call 11; go_must (refine (unhide HR _ (unhide HB)).mono ?_; rintro e V1 ⟨rfl, hb1⟩; have HN1 := hide ((unhide HN).later hb1); have HB1 := hide ((unhide HB).trans (hb1.mono (unhide HB).size)); clear hb1 q0 q1))
  clear HN HB
  go_cut [9, 10] from 21 (fun s9 s10 wx => ∃ g, s9 = .pointer (some ⟨g, 0, none⟩) ∧ s10 = .int .i64 7 ∧ Hid (T2 wx g (.string yn) (.string yd) ∧ Below V1.heap.size V1 wx))
  case first =>
    have HP := HN1
    have t0 := (unhide HP).c0; have t1 := (unhide HP).c1
    have HC0 : Hid (Below V1.heap.size V1 V1.drew) := (Below.refl _ _).drew
    have HUP : Hid (∀ W, Below V1.heap.size V1 W → Below w.heap.size w W) := fun W h => (unhide HB1).trans (h.mono (unhide HB1).size)
    have HUA : Hid (∀ W O, Below V1.heap.size V1 W → Below w.heap.size w (W.alloc O)) := fun W O h => (unhide HB1).trans ((h.alloc h.size O).mono (unhide HB1).size)
    have HUD : Hid (∀ O, Below w.heap.size w (V1.alloc O).drew) := fun O => ((unhide HB1).alloc (unhide HB1).size O).drew
    have hv0 := (unhide HP).lt
    go_region_held3 (fun w' => w'.cell? ⟨w.heap.size, 0, none⟩ = some (.string n) ∧ w'.cell? ⟨w.heap.size, 1, none⟩ = some (.string d)) (first | assumption | (simp [go_sem, *]; done)) ((first
      | (go_at_call 6; refine (unhide HT1 _ (by first | exact unhide HUP _ (unhide HCwb) | exact unhide HUA _ _ (unhide HCwb))).mono ?_; rintro e wd ⟨rfl, hb⟩; have HCwd : Hid (Below V1.heap.size V1 wd) := (by first | exact (unhide HCwb).trans (hb.mono (unhide HCwb).size) | exact bel_al (unhide HCwb) hb); (first | (have HZwd := hide ((unhide HZwb).later hb); clear u0 u1 uf0 uf1; have u0 := (unhide HZwd).c0; have u1 := (unhide HZwd).c1; have uf0 := (unhide HZwd).f0; have uf1 := (unhide HZwd).f1) | (have HZwd : Hid (T2 wd wb.heap.size (.string ⟨#[]⟩) (.string ⟨#[]⟩)) := (by first | exact T2.past hb | exact T2.pastD hb); have u0 := (unhide HZwd).c0; have u1 := (unhide HZwd).c1; have uf0 := (unhide HZwd).f0; have uf1 := (unhide HZwd).f1) | skip); clear hb t0 t1; have t0 := ((unhide HP).later (unhide HCwd)).c0; have t1 := ((unhide HP).later (unhide HCwd)).c1; have hvwd := ((unhide HP).later (unhide HCwd)).lt)
      | (go_at_call_of 12 b; refine (unhide HO2 _ (by first | exact unhide HUP _ (unhide HCwa) | exact unhide HUA _ _ (unhide HCwa))).mono ?_; rintro e wb ⟨rfl, hb⟩; have HCwb : Hid (Below V1.heap.size V1 wb) := (by first | exact (unhide HCwa).trans (hb.mono (unhide HCwa).size) | exact bel_al (unhide HCwa) hb); (first | (have HZwb := hide ((unhide HZwa).later hb); clear u0 u1 uf0 uf1; have u0 := (unhide HZwb).c0; have u1 := (unhide HZwb).c1; have uf0 := (unhide HZwb).f0; have uf1 := (unhide HZwb).f1) | (have HZwb : Hid (T2 wb wa.heap.size (.string ⟨#[]⟩) (.string ⟨#[]⟩)) := (by first | exact T2.past hb | exact T2.pastD hb); have u0 := (unhide HZwb).c0; have u1 := (unhide HZwb).c1; have uf0 := (unhide HZwb).f0; have uf1 := (unhide HZwb).f1) | skip); clear hb t0 t1; have t0 := ((unhide HP).later (unhide HCwb)).c0; have t1 := ((unhide HP).later (unhide HCwb)).c1; have hvwb := ((unhide HP).later (unhide HCwb)).lt)
      | (go_at_call_of 12 a; refine (unhide HO1 _ (by first | exact unhide HUP _ (unhide HC0) | exact unhide HUA _ _ (unhide HC0) | exact unhide HUD _)).mono ?_; rintro e wa ⟨rfl, hb⟩; have HCwa : Hid (Below V1.heap.size V1 wa) := (by first | exact (unhide HC0).trans (hb.mono (unhide HC0).size) | exact bel_al (unhide HC0) hb | exact bel_alD hb); (first | (have HZwa := hide ((unhide HZ0).later hb); clear u0 u1 uf0 uf1; have u0 := (unhide HZwa).c0; have u1 := (unhide HZwa).c1; have uf0 := (unhide HZwa).f0; have uf1 := (unhide HZwa).f1) | (have HZwa : Hid (T2 wa V1.heap.size (.string ⟨#[]⟩) (.string ⟨#[]⟩)) := (by first | exact T2.past hb | exact T2.pastD hb); have u0 := (unhide HZwa).c0; have u1 := (unhide HZwa).c1; have uf0 := (unhide HZwa).f0; have uf1 := (unhide HZwa).f1) | skip); clear hb t0 t1; have t0 := ((unhide HP).later (unhide HCwa)).c0; have t1 := ((unhide HP).later (unhide HCwa)).c1; have hvwa := ((unhide HP).later (unhide HCwa)).lt)))
    all_goals
      first
      | (obtain ⟨X, hX⟩ : ∃ X, X = wd.heap.size := ⟨_, rfl⟩
         obtain ⟨U, hU⟩ : ∃ U, U = wd.alloc (.cells #[.string yn, .string yd] 23) := ⟨_, rfl⟩
         have HF : Hid (T2 U X (.string yn) (.string yd) ∧ Below V1.heap.size V1 U) := by
           rw [hU, hX]
           exact ⟨⟨by simp [go_sem], by simp [go_sem], by simp [go_sem], by simp [go_sem]⟩, (unhide HCwd).alloc (unhide HCwd).size _⟩
         rw [← hU, ← hX]
         clear hU hX)
      | (obtain ⟨X, hX⟩ : ∃ X, X = wb.heap.size := ⟨_, rfl⟩
         obtain ⟨U, hU⟩ : ∃ U, U = (wd.setCell { block := wb.heap.size, off := 0 } (.string yn)).setCell { block := wb.heap.size, off := 1 } (.string yd) := ⟨_, rfl⟩
         have HF : Hid (T2 U X (.string yn) (.string yd) ∧ Below V1.heap.size V1 U) := by
           rw [hU, hX]
           exact ⟨(unhide HZwd).store _ _, below_store2 (unhide HCwd) ((unhide HCwb).size) _ _⟩
         rw [← hU, ← hX]
         clear hU hX)
      | (obtain ⟨X, hX⟩ : ∃ X, X = wa.heap.size := ⟨_, rfl⟩
         obtain ⟨U, hU⟩ : ∃ U, U = (wd.setCell { block := wa.heap.size, off := 0 } (.string yn)).setCell { block := wa.heap.size, off := 1 } (.string yd) := ⟨_, rfl⟩
         have HF : Hid (T2 U X (.string yn) (.string yd) ∧ Below V1.heap.size V1 U) := by
           rw [hU, hX]
           exact ⟨(unhide HZwd).store _ _, below_store2 (unhide HCwd) ((unhide HCwa).size) _ _⟩
         rw [← hU, ← hX]
         clear hU hX)
      | (obtain ⟨X, hX⟩ : ∃ X, X = V1.heap.size := ⟨_, rfl⟩
         obtain ⟨U, hU⟩ : ∃ U, U = (wd.setCell { block := V1.heap.size, off := 0 } (.string yn)).setCell { block := V1.heap.size, off := 1 } (.string yd) := ⟨_, rfl⟩
         have HF : Hid (T2 U X (.string yn) (.string yd) ∧ Below V1.heap.size V1 U) := by
           rw [hU, hX]
           exact ⟨(unhide HZwd).store _ _, below_store2 (unhide HCwd) (Nat.le_refl _) _ _⟩
         rw [← hU, ← hX]
         clear hU hX)
    all_goals
      clear t0 t1
      go_wp2_with fail
      go_meet
      exact ⟨X, rfl, rfl, unhide HF⟩
  case rest =>
    obtain ⟨gV2, rfl, rfl, HTV2⟩ := hcut
    generalize wc = V2 at HTV2 ⊢
    have HN2 := hide ((unhide HN1).later (unhide HTV2).2); have HB2 := hide ((unhide HB1).trans ((unhide HTV2).2.mono (unhide HB1).size))
    have HY2 := hide (unhide HTV2).1
    clear HTV2 HN1 HB1
    go_upto_region 4 with fail
    go_cut [11, 12] from 21 (fun s9 s10 wx => ∃ g, s9 = .pointer (some ⟨g, 0, none⟩) ∧ s10 = .int .i64 ff ∧ Hid (T2 wx g (.string zn) (.string zd) ∧ Below V2.heap.size V2 wx))
    case first =>
      have HP := HN2
      have t0 := (unhide HP).c0; have t1 := (unhide HP).c1
      have HC0 : Hid (Below V2.heap.size V2 V2.drew) := (Below.refl _ _).drew
      have HUP : Hid (∀ W, Below V2.heap.size V2 W → Below w.heap.size w W) := fun W h => (unhide HB2).trans (h.mono (unhide HB2).size)
      have HUA : Hid (∀ W O, Below V2.heap.size V2 W → Below w.heap.size w (W.alloc O)) := fun W O h => (unhide HB2).trans ((h.alloc h.size O).mono (unhide HB2).size)
      have HUD : Hid (∀ O, Below w.heap.size w (V2.alloc O).drew) := fun O => ((unhide HB2).alloc (unhide HB2).size O).drew
      have hv0 := (unhide HP).lt
      go_region_held3 (fun w' => w'.cell? ⟨w.heap.size, 0, none⟩ = some (.string n) ∧ w'.cell? ⟨w.heap.size, 1, none⟩ = some (.string d)) (first | assumption | (simp [go_sem, *]; done)) ((first
        | (go_at_call 6; refine (unhide HT2 _ (by first | exact unhide HUP _ (unhide HCwb) | exact unhide HUA _ _ (unhide HCwb))).mono ?_; rintro e wd ⟨rfl, hb⟩; have HCwd : Hid (Below V2.heap.size V2 wd) := (by first | exact (unhide HCwb).trans (hb.mono (unhide HCwb).size) | exact bel_al (unhide HCwb) hb); (first | (have HZwd := hide ((unhide HZwb).later hb); clear u0 u1 uf0 uf1; have u0 := (unhide HZwd).c0; have u1 := (unhide HZwd).c1; have uf0 := (unhide HZwd).f0; have uf1 := (unhide HZwd).f1) | (have HZwd : Hid (T2 wd wb.heap.size (.string ⟨#[]⟩) (.string ⟨#[]⟩)) := (by first | exact T2.past hb | exact T2.pastD hb); have u0 := (unhide HZwd).c0; have u1 := (unhide HZwd).c1; have uf0 := (unhide HZwd).f0; have uf1 := (unhide HZwd).f1) | skip); clear hb t0 t1; have t0 := ((unhide HP).later (unhide HCwd)).c0; have t1 := ((unhide HP).later (unhide HCwd)).c1; have hvwd := ((unhide HP).later (unhide HCwd)).lt)
        | (go_at_call_of 12 c; refine (unhide HO3 _ (by first | exact unhide HUP _ (unhide HCwa) | exact unhide HUA _ _ (unhide HCwa))).mono ?_; rintro e wb ⟨rfl, hb⟩; have HCwb : Hid (Below V2.heap.size V2 wb) := (by first | exact (unhide HCwa).trans (hb.mono (unhide HCwa).size) | exact bel_al (unhide HCwa) hb); (first | (have HZwb := hide ((unhide HZwa).later hb); clear u0 u1 uf0 uf1; have u0 := (unhide HZwb).c0; have u1 := (unhide HZwb).c1; have uf0 := (unhide HZwb).f0; have uf1 := (unhide HZwb).f1) | (have HZwb : Hid (T2 wb wa.heap.size (.string ⟨#[]⟩) (.string ⟨#[]⟩)) := (by first | exact T2.past hb | exact T2.pastD hb); have u0 := (unhide HZwb).c0; have u1 := (unhide HZwb).c1; have uf0 := (unhide HZwb).f0; have uf1 := (unhide HZwb).f1) | skip); clear hb t0 t1; have t0 := ((unhide HP).later (unhide HCwb)).c0; have t1 := ((unhide HP).later (unhide HCwb)).c1; have hvwb := ((unhide HP).later (unhide HCwb)).lt)
        | (go_at_call_of 12 a; refine (unhide HO1 _ (by first | exact unhide HUP _ (unhide HC0) | exact unhide HUA _ _ (unhide HC0) | exact unhide HUD _)).mono ?_; rintro e wa ⟨rfl, hb⟩; have HCwa : Hid (Below V2.heap.size V2 wa) := (by first | exact (unhide HC0).trans (hb.mono (unhide HC0).size) | exact bel_al (unhide HC0) hb | exact bel_alD hb); (first | (have HZwa := hide ((unhide HZ0).later hb); clear u0 u1 uf0 uf1; have u0 := (unhide HZwa).c0; have u1 := (unhide HZwa).c1; have uf0 := (unhide HZwa).f0; have uf1 := (unhide HZwa).f1) | (have HZwa : Hid (T2 wa V2.heap.size (.string ⟨#[]⟩) (.string ⟨#[]⟩)) := (by first | exact T2.past hb | exact T2.pastD hb); have u0 := (unhide HZwa).c0; have u1 := (unhide HZwa).c1; have uf0 := (unhide HZwa).f0; have uf1 := (unhide HZwa).f1) | skip); clear hb t0 t1; have t0 := ((unhide HP).later (unhide HCwa)).c0; have t1 := ((unhide HP).later (unhide HCwa)).c1; have hvwa := ((unhide HP).later (unhide HCwa)).lt)))
      all_goals
        first
        | (obtain ⟨X, hX⟩ : ∃ X, X = wd.heap.size := ⟨_, rfl⟩
           obtain ⟨U, hU⟩ : ∃ U, U = wd.alloc (.cells #[.string zn, .string zd] 23) := ⟨_, rfl⟩
           have HF : Hid (T2 U X (.string zn) (.string zd) ∧ Below V2.heap.size V2 U) := by
             rw [hU, hX]
             exact ⟨⟨by simp [go_sem], by simp [go_sem], by simp [go_sem], by simp [go_sem]⟩, (unhide HCwd).alloc (unhide HCwd).size _⟩
           rw [← hU, ← hX]
           clear hU hX)
        | (obtain ⟨X, hX⟩ : ∃ X, X = wb.heap.size := ⟨_, rfl⟩
           obtain ⟨U, hU⟩ : ∃ U, U = (wd.setCell { block := wb.heap.size, off := 0 } (.string zn)).setCell { block := wb.heap.size, off := 1 } (.string zd) := ⟨_, rfl⟩
           have HF : Hid (T2 U X (.string zn) (.string zd) ∧ Below V2.heap.size V2 U) := by
             rw [hU, hX]
             exact ⟨(unhide HZwd).store _ _, below_store2 (unhide HCwd) ((unhide HCwb).size) _ _⟩
           rw [← hU, ← hX]
           clear hU hX)
        | (obtain ⟨X, hX⟩ : ∃ X, X = wa.heap.size := ⟨_, rfl⟩
           obtain ⟨U, hU⟩ : ∃ U, U = (wd.setCell { block := wa.heap.size, off := 0 } (.string zn)).setCell { block := wa.heap.size, off := 1 } (.string zd) := ⟨_, rfl⟩
           have HF : Hid (T2 U X (.string zn) (.string zd) ∧ Below V2.heap.size V2 U) := by
             rw [hU, hX]
             exact ⟨(unhide HZwd).store _ _, below_store2 (unhide HCwd) ((unhide HCwa).size) _ _⟩
           rw [← hU, ← hX]
           clear hU hX)
        | (obtain ⟨X, hX⟩ : ∃ X, X = V2.heap.size := ⟨_, rfl⟩
           obtain ⟨U, hU⟩ : ∃ U, U = (wd.setCell { block := V2.heap.size, off := 0 } (.string zn)).setCell { block := V2.heap.size, off := 1 } (.string zd) := ⟨_, rfl⟩
           have HF : Hid (T2 U X (.string zn) (.string zd) ∧ Below V2.heap.size V2 U) := by
             rw [hU, hX]
             exact ⟨(unhide HZwd).store _ _, below_store2 (unhide HCwd) (Nat.le_refl _) _ _⟩
           rw [← hU, ← hX]
           clear hU hX)
      all_goals
        clear t0 t1
        go_wp2_with fail
        go_meet
        exact ⟨X, rfl, rfl, unhide HF⟩
    case rest =>
      obtain ⟨gV3, rfl, rfl, HTV3⟩ := hcut
      generalize wc = V3 at HTV3 ⊢
      have HN3 := hide ((unhide HN2).later (unhide HTV3).2); have HB3 := hide ((unhide HB2).trans ((unhide HTV3).2.mono (unhide HB2).size))
      have HY3 := hide ((unhide HY2).later (unhide HTV3).2); have HZ3 := hide (unhide HTV3).1
      clear HTV3 HN2 HB2 HY2
      go_wp2_with (go_at_call 10; go_must (refine (unhide HAW _ (unhide HB3)).mono ?_; rintro e w9 ⟨rfl, hb9⟩; have HB9 := hide ((unhide HB3).trans (hb9.mono (unhide HB3).size)); clear hb9))
      go_ret
      exact ⟨rfl, unhide HB9⟩
set_option maxRecDepth 100000 in
set_option maxHeartbeats 8000000 in
theorem group_ok (n d yn yd zn zd sa sb sc : ByteArray) (a b c ff : Int) (w : World)
    (hr : ∀ W, Below w.heap.size w W → Calls Tryz.prog 11 #[.agg #[.string n, .string d]] W fun r w' => r = .returned (.bool true) ∧ Below W.heap.size W w')
    (ho1 : ∀ W, Below w.heap.size w W → Calls Tryz.prog 12 #[.int .i64 a] W fun r w' => r = .returned (.string sa) ∧ Below W.heap.size W w')
    (ho2 : ∀ W, Below w.heap.size w W → Calls Tryz.prog 12 #[.int .i64 b] W fun r w' => r = .returned (.string sb) ∧ Below W.heap.size W w')
    (ho3 : ∀ W, Below w.heap.size w W → Calls Tryz.prog 12 #[.int .i64 c] W fun r w' => r = .returned (.string sc) ∧ Below W.heap.size W w')
    (ht1 : ∀ W, Below w.heap.size w W → Calls Tryz.prog 6 #[.agg #[.string n, .string d], .string sa, .string sb] W fun r w' => r = .returned (.tuple #[.agg #[.string yn, .string yd], .int .i64 0]) ∧ Below W.heap.size W w')
    (ht2 : ∀ W, Below w.heap.size w W → Calls Tryz.prog 6 #[.agg #[.string n, .string d], .string sa, .string sc] W fun r w' => r = .returned (.tuple #[.agg #[.string zn, .string zd], .int .i64 ff]) ∧ Below W.heap.size W w')
    (haw : ∀ W, Below w.heap.size w W → Calls Tryz.prog 10 #[] W fun r w' => r = .returned (.bool true) ∧ Below W.heap.size W w')
    (ht3 : ∀ W, Below w.heap.size w W → Calls Tryz.prog 6 #[.agg #[.string yn, .string yd], .string sb, .string sc] W fun r w' => r = .returned (.tuple #[.agg #[.string zn, .string zd], .int .i64 ff]) ∧ Below W.heap.size W w')
    (ht4 : ∀ W, Below w.heap.size w W → Calls Tryz.prog 6 #[.agg #[.string n, .string d], .string sa, .string sa] W fun r w' => r = .returned (.tuple #[.agg #[.string n, .string d], .int .i64 0]) ∧ Below W.heap.size W w') (hf : ff ≠ 9) :
    Calls Tryz.prog 4 #[.agg #[.string n, .string d], .int .i64 a, .int .i64 b, .int .i64 c] w fun r w' => r = .returned (.bool true) ∧ Below w.heap.size w w' := by
  obtain ⟨V, hV⟩ : ∃ V, V = w.alloc (.cells #[.string n, .string d] 23) := ⟨_, rfl⟩
  have HN : Hid (T2 V w.heap.size (.string n) (.string d)) := by rw [hV]; exact ⟨by simp [go_sem], by simp [go_sem], by simp [go_sem], by simp [go_sem]⟩
  have HB : Hid (Below w.heap.size w V) := by rw [hV]; exact (Below.refl _ _).alloc (Nat.le_refl _) _
  have HV := hide hV
  have HR := hide hr; have HO1 := hide ho1; have HO2 := hide ho2; have HO3 := hide ho3; have HT1 := hide ht1; have HT2 := hide ht2; have HAW := hide haw; have HT3 := hide ht3; have HT4 := hide ht4
  clear hV hr ho1 ho2 ho3 ht1 ht2 haw ht3 ht4
  go_enter Tryz.func4, Tryz.ntmps4
  go_upto_region 1 with fail
  rw [← unhide HV]
  clear HV
  have q0 := (unhide HN).c0; have q1 := (unhide HN).c1
  go_upto_region 3 with (go_at_call 11; go_must (refine (unhide HR _ (unhide HB)).mono ?_; rintro e V1 ⟨rfl, hb1⟩; have HN1 := hide ((unhide HN).later hb1); have HB1 := hide ((unhide HB).trans (hb1.mono (unhide HB).size)); clear hb1 q0 q1))
  clear HN HB
  go_cut [9, 10] from 21 (fun s9 s10 wx => ∃ g, s9 = .pointer (some ⟨g, 0, none⟩) ∧ s10 = .int .i64 0 ∧ Hid (T2 wx g (.string yn) (.string yd) ∧ Below V1.heap.size V1 wx))
  case first =>
    have HP := HN1
    have t0 := (unhide HP).c0; have t1 := (unhide HP).c1
    have HC0 : Hid (Below V1.heap.size V1 V1.drew) := (Below.refl _ _).drew
    have HUP : Hid (∀ W, Below V1.heap.size V1 W → Below w.heap.size w W) := fun W h => (unhide HB1).trans (h.mono (unhide HB1).size)
    have HUA : Hid (∀ W O, Below V1.heap.size V1 W → Below w.heap.size w (W.alloc O)) := fun W O h => (unhide HB1).trans ((h.alloc h.size O).mono (unhide HB1).size)
    have HUD : Hid (∀ O, Below w.heap.size w (V1.alloc O).drew) := fun O => ((unhide HB1).alloc (unhide HB1).size O).drew
    have hv0 := (unhide HP).lt
    go_region_held3 (fun w' => w'.cell? ⟨w.heap.size, 0, none⟩ = some (.string n) ∧ w'.cell? ⟨w.heap.size, 1, none⟩ = some (.string d)) (first | assumption | (simp [go_sem, *]; done)) ((first
      | (go_at_call 6; refine (unhide HT1 _ (by first | exact unhide HUP _ (unhide HCwb) | exact unhide HUA _ _ (unhide HCwb))).mono ?_; rintro e wd ⟨rfl, hb⟩; have HCwd : Hid (Below V1.heap.size V1 wd) := (by first | exact (unhide HCwb).trans (hb.mono (unhide HCwb).size) | exact bel_al (unhide HCwb) hb); (first | (have HZwd := hide ((unhide HZwb).later hb); clear u0 u1 uf0 uf1; have u0 := (unhide HZwd).c0; have u1 := (unhide HZwd).c1; have uf0 := (unhide HZwd).f0; have uf1 := (unhide HZwd).f1) | (have HZwd : Hid (T2 wd wb.heap.size (.string ⟨#[]⟩) (.string ⟨#[]⟩)) := (by first | exact T2.past hb | exact T2.pastD hb); have u0 := (unhide HZwd).c0; have u1 := (unhide HZwd).c1; have uf0 := (unhide HZwd).f0; have uf1 := (unhide HZwd).f1) | skip); clear hb t0 t1; have t0 := ((unhide HP).later (unhide HCwd)).c0; have t1 := ((unhide HP).later (unhide HCwd)).c1; have hvwd := ((unhide HP).later (unhide HCwd)).lt)
      | (go_at_call_of 12 b; refine (unhide HO2 _ (by first | exact unhide HUP _ (unhide HCwa) | exact unhide HUA _ _ (unhide HCwa))).mono ?_; rintro e wb ⟨rfl, hb⟩; have HCwb : Hid (Below V1.heap.size V1 wb) := (by first | exact (unhide HCwa).trans (hb.mono (unhide HCwa).size) | exact bel_al (unhide HCwa) hb); (first | (have HZwb := hide ((unhide HZwa).later hb); clear u0 u1 uf0 uf1; have u0 := (unhide HZwb).c0; have u1 := (unhide HZwb).c1; have uf0 := (unhide HZwb).f0; have uf1 := (unhide HZwb).f1) | (have HZwb : Hid (T2 wb wa.heap.size (.string ⟨#[]⟩) (.string ⟨#[]⟩)) := (by first | exact T2.past hb | exact T2.pastD hb); have u0 := (unhide HZwb).c0; have u1 := (unhide HZwb).c1; have uf0 := (unhide HZwb).f0; have uf1 := (unhide HZwb).f1) | skip); clear hb t0 t1; have t0 := ((unhide HP).later (unhide HCwb)).c0; have t1 := ((unhide HP).later (unhide HCwb)).c1; have hvwb := ((unhide HP).later (unhide HCwb)).lt)
      | (go_at_call_of 12 a; refine (unhide HO1 _ (by first | exact unhide HUP _ (unhide HC0) | exact unhide HUA _ _ (unhide HC0) | exact unhide HUD _)).mono ?_; rintro e wa ⟨rfl, hb⟩; have HCwa : Hid (Below V1.heap.size V1 wa) := (by first | exact (unhide HC0).trans (hb.mono (unhide HC0).size) | exact bel_al (unhide HC0) hb | exact bel_alD hb); (first | (have HZwa := hide ((unhide HZ0).later hb); clear u0 u1 uf0 uf1; have u0 := (unhide HZwa).c0; have u1 := (unhide HZwa).c1; have uf0 := (unhide HZwa).f0; have uf1 := (unhide HZwa).f1) | (have HZwa : Hid (T2 wa V1.heap.size (.string ⟨#[]⟩) (.string ⟨#[]⟩)) := (by first | exact T2.past hb | exact T2.pastD hb); have u0 := (unhide HZwa).c0; have u1 := (unhide HZwa).c1; have uf0 := (unhide HZwa).f0; have uf1 := (unhide HZwa).f1) | skip); clear hb t0 t1; have t0 := ((unhide HP).later (unhide HCwa)).c0; have t1 := ((unhide HP).later (unhide HCwa)).c1; have hvwa := ((unhide HP).later (unhide HCwa)).lt)))
    all_goals
      first
      | (obtain ⟨X, hX⟩ : ∃ X, X = wd.heap.size := ⟨_, rfl⟩
         obtain ⟨U, hU⟩ : ∃ U, U = wd.alloc (.cells #[.string yn, .string yd] 23) := ⟨_, rfl⟩
         have HF : Hid (T2 U X (.string yn) (.string yd) ∧ Below V1.heap.size V1 U) := by
           rw [hU, hX]
           exact ⟨⟨by simp [go_sem], by simp [go_sem], by simp [go_sem], by simp [go_sem]⟩, (unhide HCwd).alloc (unhide HCwd).size _⟩
         rw [← hU, ← hX]
         clear hU hX)
      | (obtain ⟨X, hX⟩ : ∃ X, X = wb.heap.size := ⟨_, rfl⟩
         obtain ⟨U, hU⟩ : ∃ U, U = (wd.setCell { block := wb.heap.size, off := 0 } (.string yn)).setCell { block := wb.heap.size, off := 1 } (.string yd) := ⟨_, rfl⟩
         have HF : Hid (T2 U X (.string yn) (.string yd) ∧ Below V1.heap.size V1 U) := by
           rw [hU, hX]
           exact ⟨(unhide HZwd).store _ _, below_store2 (unhide HCwd) ((unhide HCwb).size) _ _⟩
         rw [← hU, ← hX]
         clear hU hX)
      | (obtain ⟨X, hX⟩ : ∃ X, X = wa.heap.size := ⟨_, rfl⟩
         obtain ⟨U, hU⟩ : ∃ U, U = (wd.setCell { block := wa.heap.size, off := 0 } (.string yn)).setCell { block := wa.heap.size, off := 1 } (.string yd) := ⟨_, rfl⟩
         have HF : Hid (T2 U X (.string yn) (.string yd) ∧ Below V1.heap.size V1 U) := by
           rw [hU, hX]
           exact ⟨(unhide HZwd).store _ _, below_store2 (unhide HCwd) ((unhide HCwa).size) _ _⟩
         rw [← hU, ← hX]
         clear hU hX)
      | (obtain ⟨X, hX⟩ : ∃ X, X = V1.heap.size := ⟨_, rfl⟩
         obtain ⟨U, hU⟩ : ∃ U, U = (wd.setCell { block := V1.heap.size, off := 0 } (.string yn)).setCell { block := V1.heap.size, off := 1 } (.string yd) := ⟨_, rfl⟩
         have HF : Hid (T2 U X (.string yn) (.string yd) ∧ Below V1.heap.size V1 U) := by
           rw [hU, hX]
           exact ⟨(unhide HZwd).store _ _, below_store2 (unhide HCwd) (Nat.le_refl _) _ _⟩
         rw [← hU, ← hX]
         clear hU hX)
    all_goals
      clear t0 t1
      go_wp2_with fail
      go_meet
      exact ⟨X, rfl, rfl, unhide HF⟩
  case rest =>
    obtain ⟨gV2, rfl, rfl, HTV2⟩ := hcut
    generalize wc = V2 at HTV2 ⊢
    have HN2 := hide ((unhide HN1).later (unhide HTV2).2); have HB2 := hide ((unhide HB1).trans ((unhide HTV2).2.mono (unhide HB1).size))
    have HY2 := hide (unhide HTV2).1
    clear HTV2 HN1 HB1
    go_upto_region 4 with fail
    go_cut [11, 12] from 21 (fun s9 s10 wx => ∃ g, s9 = .pointer (some ⟨g, 0, none⟩) ∧ s10 = .int .i64 ff ∧ Hid (T2 wx g (.string zn) (.string zd) ∧ Below V2.heap.size V2 wx))
    case first =>
      have HP := HN2
      have t0 := (unhide HP).c0; have t1 := (unhide HP).c1
      have HC0 : Hid (Below V2.heap.size V2 V2.drew) := (Below.refl _ _).drew
      have HUP : Hid (∀ W, Below V2.heap.size V2 W → Below w.heap.size w W) := fun W h => (unhide HB2).trans (h.mono (unhide HB2).size)
      have HUA : Hid (∀ W O, Below V2.heap.size V2 W → Below w.heap.size w (W.alloc O)) := fun W O h => (unhide HB2).trans ((h.alloc h.size O).mono (unhide HB2).size)
      have HUD : Hid (∀ O, Below w.heap.size w (V2.alloc O).drew) := fun O => ((unhide HB2).alloc (unhide HB2).size O).drew
      have hv0 := (unhide HP).lt
      go_region_held3 (fun w' => w'.cell? ⟨w.heap.size, 0, none⟩ = some (.string n) ∧ w'.cell? ⟨w.heap.size, 1, none⟩ = some (.string d)) (first | assumption | (simp [go_sem, *]; done)) ((first
        | (go_at_call 6; refine (unhide HT2 _ (by first | exact unhide HUP _ (unhide HCwb) | exact unhide HUA _ _ (unhide HCwb))).mono ?_; rintro e wd ⟨rfl, hb⟩; have HCwd : Hid (Below V2.heap.size V2 wd) := (by first | exact (unhide HCwb).trans (hb.mono (unhide HCwb).size) | exact bel_al (unhide HCwb) hb); (first | (have HZwd := hide ((unhide HZwb).later hb); clear u0 u1 uf0 uf1; have u0 := (unhide HZwd).c0; have u1 := (unhide HZwd).c1; have uf0 := (unhide HZwd).f0; have uf1 := (unhide HZwd).f1) | (have HZwd : Hid (T2 wd wb.heap.size (.string ⟨#[]⟩) (.string ⟨#[]⟩)) := (by first | exact T2.past hb | exact T2.pastD hb); have u0 := (unhide HZwd).c0; have u1 := (unhide HZwd).c1; have uf0 := (unhide HZwd).f0; have uf1 := (unhide HZwd).f1) | skip); clear hb t0 t1; have t0 := ((unhide HP).later (unhide HCwd)).c0; have t1 := ((unhide HP).later (unhide HCwd)).c1; have hvwd := ((unhide HP).later (unhide HCwd)).lt)
        | (go_at_call_of 12 c; refine (unhide HO3 _ (by first | exact unhide HUP _ (unhide HCwa) | exact unhide HUA _ _ (unhide HCwa))).mono ?_; rintro e wb ⟨rfl, hb⟩; have HCwb : Hid (Below V2.heap.size V2 wb) := (by first | exact (unhide HCwa).trans (hb.mono (unhide HCwa).size) | exact bel_al (unhide HCwa) hb); (first | (have HZwb := hide ((unhide HZwa).later hb); clear u0 u1 uf0 uf1; have u0 := (unhide HZwb).c0; have u1 := (unhide HZwb).c1; have uf0 := (unhide HZwb).f0; have uf1 := (unhide HZwb).f1) | (have HZwb : Hid (T2 wb wa.heap.size (.string ⟨#[]⟩) (.string ⟨#[]⟩)) := (by first | exact T2.past hb | exact T2.pastD hb); have u0 := (unhide HZwb).c0; have u1 := (unhide HZwb).c1; have uf0 := (unhide HZwb).f0; have uf1 := (unhide HZwb).f1) | skip); clear hb t0 t1; have t0 := ((unhide HP).later (unhide HCwb)).c0; have t1 := ((unhide HP).later (unhide HCwb)).c1; have hvwb := ((unhide HP).later (unhide HCwb)).lt)
        | (go_at_call_of 12 a; refine (unhide HO1 _ (by first | exact unhide HUP _ (unhide HC0) | exact unhide HUA _ _ (unhide HC0) | exact unhide HUD _)).mono ?_; rintro e wa ⟨rfl, hb⟩; have HCwa : Hid (Below V2.heap.size V2 wa) := (by first | exact (unhide HC0).trans (hb.mono (unhide HC0).size) | exact bel_al (unhide HC0) hb | exact bel_alD hb); (first | (have HZwa := hide ((unhide HZ0).later hb); clear u0 u1 uf0 uf1; have u0 := (unhide HZwa).c0; have u1 := (unhide HZwa).c1; have uf0 := (unhide HZwa).f0; have uf1 := (unhide HZwa).f1) | (have HZwa : Hid (T2 wa V2.heap.size (.string ⟨#[]⟩) (.string ⟨#[]⟩)) := (by first | exact T2.past hb | exact T2.pastD hb); have u0 := (unhide HZwa).c0; have u1 := (unhide HZwa).c1; have uf0 := (unhide HZwa).f0; have uf1 := (unhide HZwa).f1) | skip); clear hb t0 t1; have t0 := ((unhide HP).later (unhide HCwa)).c0; have t1 := ((unhide HP).later (unhide HCwa)).c1; have hvwa := ((unhide HP).later (unhide HCwa)).lt)))
      all_goals
        first
        | (obtain ⟨X, hX⟩ : ∃ X, X = wd.heap.size := ⟨_, rfl⟩
           obtain ⟨U, hU⟩ : ∃ U, U = wd.alloc (.cells #[.string zn, .string zd] 23) := ⟨_, rfl⟩
           have HF : Hid (T2 U X (.string zn) (.string zd) ∧ Below V2.heap.size V2 U) := by
             rw [hU, hX]
             exact ⟨⟨by simp [go_sem], by simp [go_sem], by simp [go_sem], by simp [go_sem]⟩, (unhide HCwd).alloc (unhide HCwd).size _⟩
           rw [← hU, ← hX]
           clear hU hX)
        | (obtain ⟨X, hX⟩ : ∃ X, X = wb.heap.size := ⟨_, rfl⟩
           obtain ⟨U, hU⟩ : ∃ U, U = (wd.setCell { block := wb.heap.size, off := 0 } (.string zn)).setCell { block := wb.heap.size, off := 1 } (.string zd) := ⟨_, rfl⟩
           have HF : Hid (T2 U X (.string zn) (.string zd) ∧ Below V2.heap.size V2 U) := by
             rw [hU, hX]
             exact ⟨(unhide HZwd).store _ _, below_store2 (unhide HCwd) ((unhide HCwb).size) _ _⟩
           rw [← hU, ← hX]
           clear hU hX)
        | (obtain ⟨X, hX⟩ : ∃ X, X = wa.heap.size := ⟨_, rfl⟩
           obtain ⟨U, hU⟩ : ∃ U, U = (wd.setCell { block := wa.heap.size, off := 0 } (.string zn)).setCell { block := wa.heap.size, off := 1 } (.string zd) := ⟨_, rfl⟩
           have HF : Hid (T2 U X (.string zn) (.string zd) ∧ Below V2.heap.size V2 U) := by
             rw [hU, hX]
             exact ⟨(unhide HZwd).store _ _, below_store2 (unhide HCwd) ((unhide HCwa).size) _ _⟩
           rw [← hU, ← hX]
           clear hU hX)
        | (obtain ⟨X, hX⟩ : ∃ X, X = V2.heap.size := ⟨_, rfl⟩
           obtain ⟨U, hU⟩ : ∃ U, U = (wd.setCell { block := V2.heap.size, off := 0 } (.string zn)).setCell { block := V2.heap.size, off := 1 } (.string zd) := ⟨_, rfl⟩
           have HF : Hid (T2 U X (.string zn) (.string zd) ∧ Below V2.heap.size V2 U) := by
             rw [hU, hX]
             exact ⟨(unhide HZwd).store _ _, below_store2 (unhide HCwd) (Nat.le_refl _) _ _⟩
           rw [← hU, ← hX]
           clear hU hX)
      all_goals
        clear t0 t1
        go_wp2_with fail
        go_meet
        exact ⟨X, rfl, rfl, unhide HF⟩
    case rest =>
      obtain ⟨gV3, rfl, rfl, HTV3⟩ := hcut
      generalize wc = V3 at HTV3 ⊢
      have HN3 := hide ((unhide HN2).later (unhide HTV3).2); have HB3 := hide ((unhide HB2).trans ((unhide HTV3).2.mono (unhide HB2).size))
      have HY3 := hide ((unhide HY2).later (unhide HTV3).2); have HZ3 := hide (unhide HTV3).1
      clear HTV3 HN2 HB2 HY2
      go_upto_region 9 with fail
      go_cut [13, 14] from 21 (fun s9 s10 wx => ∃ g, s9 = .pointer (some ⟨g, 0, none⟩) ∧ s10 = .int .i64 ff ∧ Hid (T2 wx g (.string zn) (.string zd) ∧ Below V3.heap.size V3 wx))
      case first =>
        have HP := HY3
        have t0 := (unhide HP).c0; have t1 := (unhide HP).c1
        have HC0 : Hid (Below V3.heap.size V3 V3.drew) := (Below.refl _ _).drew
        have HUP : Hid (∀ W, Below V3.heap.size V3 W → Below w.heap.size w W) := fun W h => (unhide HB3).trans (h.mono (unhide HB3).size)
        have HUA : Hid (∀ W O, Below V3.heap.size V3 W → Below w.heap.size w (W.alloc O)) := fun W O h => (unhide HB3).trans ((h.alloc h.size O).mono (unhide HB3).size)
        have HUD : Hid (∀ O, Below w.heap.size w (V3.alloc O).drew) := fun O => ((unhide HB3).alloc (unhide HB3).size O).drew
        have hv0 := (unhide HP).lt
        go_region_held3 (fun w' => w'.cell? ⟨gV2, 0, none⟩ = some (.string yn) ∧ w'.cell? ⟨gV2, 1, none⟩ = some (.string yd)) (first | assumption | (simp [go_sem, *]; done)) ((first
          | (go_at_call 6; refine (unhide HT3 _ (by first | exact unhide HUP _ (unhide HCwb) | exact unhide HUA _ _ (unhide HCwb))).mono ?_; rintro e wd ⟨rfl, hb⟩; have HCwd : Hid (Below V3.heap.size V3 wd) := (by first | exact (unhide HCwb).trans (hb.mono (unhide HCwb).size) | exact bel_al (unhide HCwb) hb); (first | (have HZwd := hide ((unhide HZwb).later hb); clear u0 u1 uf0 uf1; have u0 := (unhide HZwd).c0; have u1 := (unhide HZwd).c1; have uf0 := (unhide HZwd).f0; have uf1 := (unhide HZwd).f1) | (have HZwd : Hid (T2 wd wb.heap.size (.string ⟨#[]⟩) (.string ⟨#[]⟩)) := (by first | exact T2.past hb | exact T2.pastD hb); have u0 := (unhide HZwd).c0; have u1 := (unhide HZwd).c1; have uf0 := (unhide HZwd).f0; have uf1 := (unhide HZwd).f1) | skip); clear hb t0 t1; have t0 := ((unhide HP).later (unhide HCwd)).c0; have t1 := ((unhide HP).later (unhide HCwd)).c1; have hvwd := ((unhide HP).later (unhide HCwd)).lt)
          | (go_at_call_of 12 c; refine (unhide HO3 _ (by first | exact unhide HUP _ (unhide HCwa) | exact unhide HUA _ _ (unhide HCwa))).mono ?_; rintro e wb ⟨rfl, hb⟩; have HCwb : Hid (Below V3.heap.size V3 wb) := (by first | exact (unhide HCwa).trans (hb.mono (unhide HCwa).size) | exact bel_al (unhide HCwa) hb); (first | (have HZwb := hide ((unhide HZwa).later hb); clear u0 u1 uf0 uf1; have u0 := (unhide HZwb).c0; have u1 := (unhide HZwb).c1; have uf0 := (unhide HZwb).f0; have uf1 := (unhide HZwb).f1) | (have HZwb : Hid (T2 wb wa.heap.size (.string ⟨#[]⟩) (.string ⟨#[]⟩)) := (by first | exact T2.past hb | exact T2.pastD hb); have u0 := (unhide HZwb).c0; have u1 := (unhide HZwb).c1; have uf0 := (unhide HZwb).f0; have uf1 := (unhide HZwb).f1) | skip); clear hb t0 t1; have t0 := ((unhide HP).later (unhide HCwb)).c0; have t1 := ((unhide HP).later (unhide HCwb)).c1; have hvwb := ((unhide HP).later (unhide HCwb)).lt)
          | (go_at_call_of 12 b; refine (unhide HO2 _ (by first | exact unhide HUP _ (unhide HC0) | exact unhide HUA _ _ (unhide HC0) | exact unhide HUD _)).mono ?_; rintro e wa ⟨rfl, hb⟩; have HCwa : Hid (Below V3.heap.size V3 wa) := (by first | exact (unhide HC0).trans (hb.mono (unhide HC0).size) | exact bel_al (unhide HC0) hb | exact bel_alD hb); (first | (have HZwa := hide ((unhide HZ0).later hb); clear u0 u1 uf0 uf1; have u0 := (unhide HZwa).c0; have u1 := (unhide HZwa).c1; have uf0 := (unhide HZwa).f0; have uf1 := (unhide HZwa).f1) | (have HZwa : Hid (T2 wa V3.heap.size (.string ⟨#[]⟩) (.string ⟨#[]⟩)) := (by first | exact T2.past hb | exact T2.pastD hb); have u0 := (unhide HZwa).c0; have u1 := (unhide HZwa).c1; have uf0 := (unhide HZwa).f0; have uf1 := (unhide HZwa).f1) | skip); clear hb t0 t1; have t0 := ((unhide HP).later (unhide HCwa)).c0; have t1 := ((unhide HP).later (unhide HCwa)).c1; have hvwa := ((unhide HP).later (unhide HCwa)).lt)))
        all_goals
          first
          | (obtain ⟨X, hX⟩ : ∃ X, X = wd.heap.size := ⟨_, rfl⟩
             obtain ⟨U, hU⟩ : ∃ U, U = wd.alloc (.cells #[.string zn, .string zd] 23) := ⟨_, rfl⟩
             have HF : Hid (T2 U X (.string zn) (.string zd) ∧ Below V3.heap.size V3 U) := by
               rw [hU, hX]
               exact ⟨⟨by simp [go_sem], by simp [go_sem], by simp [go_sem], by simp [go_sem]⟩, (unhide HCwd).alloc (unhide HCwd).size _⟩
             rw [← hU, ← hX]
             clear hU hX)
          | (obtain ⟨X, hX⟩ : ∃ X, X = wb.heap.size := ⟨_, rfl⟩
             obtain ⟨U, hU⟩ : ∃ U, U = (wd.setCell { block := wb.heap.size, off := 0 } (.string zn)).setCell { block := wb.heap.size, off := 1 } (.string zd) := ⟨_, rfl⟩
             have HF : Hid (T2 U X (.string zn) (.string zd) ∧ Below V3.heap.size V3 U) := by
               rw [hU, hX]
               exact ⟨(unhide HZwd).store _ _, below_store2 (unhide HCwd) ((unhide HCwb).size) _ _⟩
             rw [← hU, ← hX]
             clear hU hX)
          | (obtain ⟨X, hX⟩ : ∃ X, X = wa.heap.size := ⟨_, rfl⟩
             obtain ⟨U, hU⟩ : ∃ U, U = (wd.setCell { block := wa.heap.size, off := 0 } (.string zn)).setCell { block := wa.heap.size, off := 1 } (.string zd) := ⟨_, rfl⟩
             have HF : Hid (T2 U X (.string zn) (.string zd) ∧ Below V3.heap.size V3 U) := by
               rw [hU, hX]
               exact ⟨(unhide HZwd).store _ _, below_store2 (unhide HCwd) ((unhide HCwa).size) _ _⟩
             rw [← hU, ← hX]
             clear hU hX)
          | (obtain ⟨X, hX⟩ : ∃ X, X = V3.heap.size := ⟨_, rfl⟩
             obtain ⟨U, hU⟩ : ∃ U, U = (wd.setCell { block := V3.heap.size, off := 0 } (.string zn)).setCell { block := V3.heap.size, off := 1 } (.string zd) := ⟨_, rfl⟩
             have HF : Hid (T2 U X (.string zn) (.string zd) ∧ Below V3.heap.size V3 U) := by
               rw [hU, hX]
               exact ⟨(unhide HZwd).store _ _, below_store2 (unhide HCwd) (Nat.le_refl _) _ _⟩
             rw [← hU, ← hX]
             clear hU hX)
        all_goals
          clear t0 t1
          go_wp2_with fail
          go_meet
          exact ⟨X, rfl, rfl, unhide HF⟩
      case rest =>
        obtain ⟨gV4, rfl, rfl, HTV4⟩ := hcut
        generalize wc = V4 at HTV4 ⊢
        have HN4 := hide ((unhide HN3).later (unhide HTV4).2); have HB4 := hide ((unhide HB3).trans ((unhide HTV4).2.mono (unhide HB3).size))
        have HZ4 := hide ((unhide HZ3).later (unhide HTV4).2); have HW4 := hide (unhide HTV4).1
        clear HTV4 HN3 HB3 HY3 HZ3
        go_upto_region 10 with fail
        go_cut [15, 16] from 21 (fun s9 s10 wx => ∃ g, s9 = .pointer (some ⟨g, 0, none⟩) ∧ s10 = .int .i64 0 ∧ Hid (T2 wx g (.string n) (.string d) ∧ Below V4.heap.size V4 wx))
        case first =>
          have HP := HN4
          have t0 := (unhide HP).c0; have t1 := (unhide HP).c1
          have HC0 : Hid (Below V4.heap.size V4 V4.drew) := (Below.refl _ _).drew
          have HUP : Hid (∀ W, Below V4.heap.size V4 W → Below w.heap.size w W) := fun W h => (unhide HB4).trans (h.mono (unhide HB4).size)
          have HUA : Hid (∀ W O, Below V4.heap.size V4 W → Below w.heap.size w (W.alloc O)) := fun W O h => (unhide HB4).trans ((h.alloc h.size O).mono (unhide HB4).size)
          have HUD : Hid (∀ O, Below w.heap.size w (V4.alloc O).drew) := fun O => ((unhide HB4).alloc (unhide HB4).size O).drew
          have hv0 := (unhide HP).lt
          go_region_held3 (fun w' => w'.cell? ⟨w.heap.size, 0, none⟩ = some (.string n) ∧ w'.cell? ⟨w.heap.size, 1, none⟩ = some (.string d)) (first | assumption | (simp [go_sem, *]; done)) ((first
            | (go_at_call 6; refine (unhide HT4 _ (by first | exact unhide HUP _ (unhide HCwb) | exact unhide HUA _ _ (unhide HCwb))).mono ?_; rintro e wd ⟨rfl, hb⟩; have HCwd : Hid (Below V4.heap.size V4 wd) := (by first | exact (unhide HCwb).trans (hb.mono (unhide HCwb).size) | exact bel_al (unhide HCwb) hb); (first | (have HZwd := hide ((unhide HZwb).later hb); clear u0 u1 uf0 uf1; have u0 := (unhide HZwd).c0; have u1 := (unhide HZwd).c1; have uf0 := (unhide HZwd).f0; have uf1 := (unhide HZwd).f1) | (have HZwd : Hid (T2 wd wb.heap.size (.string ⟨#[]⟩) (.string ⟨#[]⟩)) := (by first | exact T2.past hb | exact T2.pastD hb); have u0 := (unhide HZwd).c0; have u1 := (unhide HZwd).c1; have uf0 := (unhide HZwd).f0; have uf1 := (unhide HZwd).f1) | skip); clear hb t0 t1; have t0 := ((unhide HP).later (unhide HCwd)).c0; have t1 := ((unhide HP).later (unhide HCwd)).c1; have hvwd := ((unhide HP).later (unhide HCwd)).lt)
            | (go_at_call_of 12 a; refine (unhide HO1 _ (by first | exact unhide HUP _ (unhide HCwa) | exact unhide HUA _ _ (unhide HCwa))).mono ?_; rintro e wb ⟨rfl, hb⟩; have HCwb : Hid (Below V4.heap.size V4 wb) := (by first | exact (unhide HCwa).trans (hb.mono (unhide HCwa).size) | exact bel_al (unhide HCwa) hb); (first | (have HZwb := hide ((unhide HZwa).later hb); clear u0 u1 uf0 uf1; have u0 := (unhide HZwb).c0; have u1 := (unhide HZwb).c1; have uf0 := (unhide HZwb).f0; have uf1 := (unhide HZwb).f1) | (have HZwb : Hid (T2 wb wa.heap.size (.string ⟨#[]⟩) (.string ⟨#[]⟩)) := (by first | exact T2.past hb | exact T2.pastD hb); have u0 := (unhide HZwb).c0; have u1 := (unhide HZwb).c1; have uf0 := (unhide HZwb).f0; have uf1 := (unhide HZwb).f1) | skip); clear hb t0 t1; have t0 := ((unhide HP).later (unhide HCwb)).c0; have t1 := ((unhide HP).later (unhide HCwb)).c1; have hvwb := ((unhide HP).later (unhide HCwb)).lt)
            | (go_at_call_of 12 a; refine (unhide HO1 _ (by first | exact unhide HUP _ (unhide HC0) | exact unhide HUA _ _ (unhide HC0) | exact unhide HUD _)).mono ?_; rintro e wa ⟨rfl, hb⟩; have HCwa : Hid (Below V4.heap.size V4 wa) := (by first | exact (unhide HC0).trans (hb.mono (unhide HC0).size) | exact bel_al (unhide HC0) hb | exact bel_alD hb); (first | (have HZwa := hide ((unhide HZ0).later hb); clear u0 u1 uf0 uf1; have u0 := (unhide HZwa).c0; have u1 := (unhide HZwa).c1; have uf0 := (unhide HZwa).f0; have uf1 := (unhide HZwa).f1) | (have HZwa : Hid (T2 wa V4.heap.size (.string ⟨#[]⟩) (.string ⟨#[]⟩)) := (by first | exact T2.past hb | exact T2.pastD hb); have u0 := (unhide HZwa).c0; have u1 := (unhide HZwa).c1; have uf0 := (unhide HZwa).f0; have uf1 := (unhide HZwa).f1) | skip); clear hb t0 t1; have t0 := ((unhide HP).later (unhide HCwa)).c0; have t1 := ((unhide HP).later (unhide HCwa)).c1; have hvwa := ((unhide HP).later (unhide HCwa)).lt)))
          all_goals
            first
            | (obtain ⟨X, hX⟩ : ∃ X, X = wd.heap.size := ⟨_, rfl⟩
               obtain ⟨U, hU⟩ : ∃ U, U = wd.alloc (.cells #[.string n, .string d] 23) := ⟨_, rfl⟩
               have HF : Hid (T2 U X (.string n) (.string d) ∧ Below V4.heap.size V4 U) := by
                 rw [hU, hX]
                 exact ⟨⟨by simp [go_sem], by simp [go_sem], by simp [go_sem], by simp [go_sem]⟩, (unhide HCwd).alloc (unhide HCwd).size _⟩
               rw [← hU, ← hX]
               clear hU hX)
            | (obtain ⟨X, hX⟩ : ∃ X, X = wb.heap.size := ⟨_, rfl⟩
               obtain ⟨U, hU⟩ : ∃ U, U = (wd.setCell { block := wb.heap.size, off := 0 } (.string n)).setCell { block := wb.heap.size, off := 1 } (.string d) := ⟨_, rfl⟩
               have HF : Hid (T2 U X (.string n) (.string d) ∧ Below V4.heap.size V4 U) := by
                 rw [hU, hX]
                 exact ⟨(unhide HZwd).store _ _, below_store2 (unhide HCwd) ((unhide HCwb).size) _ _⟩
               rw [← hU, ← hX]
               clear hU hX)
            | (obtain ⟨X, hX⟩ : ∃ X, X = wa.heap.size := ⟨_, rfl⟩
               obtain ⟨U, hU⟩ : ∃ U, U = (wd.setCell { block := wa.heap.size, off := 0 } (.string n)).setCell { block := wa.heap.size, off := 1 } (.string d) := ⟨_, rfl⟩
               have HF : Hid (T2 U X (.string n) (.string d) ∧ Below V4.heap.size V4 U) := by
                 rw [hU, hX]
                 exact ⟨(unhide HZwd).store _ _, below_store2 (unhide HCwd) ((unhide HCwa).size) _ _⟩
               rw [← hU, ← hX]
               clear hU hX)
            | (obtain ⟨X, hX⟩ : ∃ X, X = V4.heap.size := ⟨_, rfl⟩
               obtain ⟨U, hU⟩ : ∃ U, U = (wd.setCell { block := V4.heap.size, off := 0 } (.string n)).setCell { block := V4.heap.size, off := 1 } (.string d) := ⟨_, rfl⟩
               have HF : Hid (T2 U X (.string n) (.string d) ∧ Below V4.heap.size V4 U) := by
                 rw [hU, hX]
                 exact ⟨(unhide HZwd).store _ _, below_store2 (unhide HCwd) (Nat.le_refl _) _ _⟩
               rw [← hU, ← hX]
               clear hU hX)
          all_goals
            clear t0 t1
            go_wp2_with fail
            go_meet
            exact ⟨X, rfl, rfl, unhide HF⟩
        case rest =>
          obtain ⟨gV5, rfl, rfl, HTV5⟩ := hcut
          generalize wc = V5 at HTV5 ⊢
          have HN5 := hide ((unhide HN4).later (unhide HTV5).2); have HB5 := hide ((unhide HB4).trans ((unhide HTV5).2.mono (unhide HB4).size))
          have HZ5 := hide ((unhide HZ4).later (unhide HTV5).2); have HW5 := hide ((unhide HW4).later (unhide HTV5).2); have HS5 := hide (unhide HTV5).1
          clear HTV5 HN4 HB4 HZ4 HW4
          have n0 := (unhide HN5).c0; have n1 := (unhide HN5).c1; have z0 := (unhide HZ5).c0; have z1 := (unhide HZ5).c1; have x0 := (unhide HW5).c0; have x1 := (unhide HW5).c1; have s0 := (unhide HS5).c0; have s1 := (unhide HS5).c1
          go_wp2_with (go_at_call 10; go_must (refine (unhide HAW _ (unhide HB5)).mono ?_; rintro e w9 ⟨rfl, hb9⟩; have HB9 := hide ((unhide HB5).trans (hb9.mono (unhide HB5).size)); clear hb9))
          go_ret
          exact ⟨rfl, unhide HB9⟩
end Go.Proofs.YtdmecoleplpdbaaGreatDoor
