/- TempsSteps, walked. -/
import Derived.Test.YtimihoonnglniaaGreatDoorRefLimbs
import Derived.Test.YtimihoonnglniaaGreatDoorRefVal
import Derived.Deep.RegionHeld3
import Derived.Deep.Cut
import Derived.Deep.Quiet
import Derived.BigQuiet
namespace Go.Proofs.YtimihoonnglniaaGreatDoor
open Go.RowKit
theorem FBox.past33 {W V : World} {x y z : Value} (h : Below (W.alloc (.cells #[x, y, z] 33)).heap.size (W.alloc (.cells #[x, y, z] 33)) V) : FBox V W.heap.size x y z :=
  (show FBox (W.alloc (.cells #[x, y, z] 33)) W.heap.size x y z from ⟨by simp [go_sem], by simp [go_sem], by simp [go_sem], by simp [go_sem], by simp [go_sem], by simp [go_sem]⟩).later h
theorem FBox.past33D {W V : World} {x y z : Value} (h : Below (W.alloc (.cells #[x, y, z] 33)).drew.heap.size (W.alloc (.cells #[x, y, z] 33)).drew V) : FBox V W.heap.size x y z :=
  ((show FBox (W.alloc (.cells #[x, y, z] 33)) W.heap.size x y z from ⟨by simp [go_sem], by simp [go_sem], by simp [go_sem], by simp [go_sem], by simp [go_sem], by simp [go_sem]⟩).later ((Below.refl _ _).drew)).later h
set_option maxRecDepth 100000 in
set_option maxHeartbeats 16000000 in
theorem steps_ok (n d m k pn pd qn qd dn dd ln ld sn sd sa sb : ByteArray) (bd : Bool) (fX fY fYm fP fQ fQm fS fPQ fZ : Value) (a b C g h : Int) (w : World)
    (hr1 : ∀ W, Below w.heap.size w W → Calls Tryz.prog 11 #[.agg #[.string n, .string d]] W fun r w' => r = .returned (.bool true) ∧ Below W.heap.size W w')
    (hr2 : ∀ W, Below w.heap.size w W → Calls Tryz.prog 11 #[.agg #[.string m, .string k]] W fun r w' => r = .returned (.bool true) ∧ Below W.heap.size W w')
    (ho1 : ∀ W, Below w.heap.size w W → Calls Tryz.prog 12 #[.int .i64 a] W fun r w' => r = .returned (.string sa) ∧ Below W.heap.size W w')
    (ho2 : ∀ W, Below w.heap.size w W → Calls Tryz.prog 12 #[.int .i64 b] W fun r w' => r = .returned (.string sb) ∧ Below W.heap.size W w')
    (ht1 : ∀ W, Below w.heap.size w W → Calls Tryz.prog 6 #[.agg #[.string n, .string d], .string sa, .string sb] W fun r w' => r = .returned (.tuple #[.agg #[.string pn, .string pd], .int .i64 0]) ∧ Below W.heap.size W w')
    (ht2 : ∀ W, Below w.heap.size w W → Calls Tryz.prog 6 #[.agg #[.string m, .string k], .string sa, .string sb] W fun r w' => r = .returned (.tuple #[.agg #[.string qn, .string qd], .int .i64 0]) ∧ Below W.heap.size W w')
    (haw : ∀ W, Below w.heap.size w W → Calls Tryz.prog 10 #[] W fun r w' => r = .returned (.bool true) ∧ Below W.heap.size W w')
    (hrp : ∀ W, Below w.heap.size w W → Calls Tryz.prog 11 #[.agg #[.string pn, .string pd]] W fun r w' => r = .returned (.bool true) ∧ Below W.heap.size W w')
    (hrq : ∀ W, Below w.heap.size w W → Calls Tryz.prog 11 #[.agg #[.string qn, .string qd]] W fun r w' => r = .returned (.bool true) ∧ Below W.heap.size W w')
    (hx : ∀ W, Below w.heap.size w W → Calls Tryz.prog 14 #[.agg #[.string n, .string d]] W fun r w' => r = .returned (fX) ∧ Below W.heap.size W w')
    (hy : ∀ W, Below w.heap.size w W → Calls Tryz.prog 14 #[.agg #[.string m, .string k]] W fun r w' => r = .returned (fY) ∧ Below W.heap.size W w')
    (hmy : ∀ W, Below w.heap.size w W → Calls Tryz.prog 15 #[fY] W fun r w' => r = .returned (fYm) ∧ Below W.heap.size W w')
    (hd : ∀ W, Below w.heap.size w W → Calls Tryz.prog 13 #[fX, fYm] W fun r w' => r = .returned (.agg #[.bool bd, .string dn, .string dd]) ∧ Below W.heap.size W w')
    (hp : ∀ W, Below w.heap.size w W → Calls Tryz.prog 14 #[.agg #[.string pn, .string pd]] W fun r w' => r = .returned (fP) ∧ Below W.heap.size W w')
    (hq : ∀ W, Below w.heap.size w W → Calls Tryz.prog 14 #[.agg #[.string qn, .string qd]] W fun r w' => r = .returned (fQ) ∧ Below W.heap.size W w')
    (hpq : ∀ W, Below w.heap.size w W → Calls Tryz.prog 16 #[fP, fQ] W fun r w' => r = .returned (.int .i64 C) ∧ Below W.heap.size W w')
    (hz : ∀ W, Below w.heap.size w W → Calls Tryz.prog 17 #[.int .i64 0] W fun r w' => r = .returned (fZ) ∧ Below W.heap.size W w')
    (hdz : ∀ W, Below w.heap.size w W → Calls Tryz.prog 16 #[.agg #[.bool bd, .string dn, .string dd], fZ] W fun r w' => r = .returned (.int .i64 C) ∧ Below W.heap.size W w')
    (htl : ∀ W, Below w.heap.size w W → Calls Tryz.prog 18 #[.agg #[.bool bd, .string dn, .string dd]] W fun r w' => r = .returned (.tuple #[.agg #[.string ln, .string ld], .int .i64 g]) ∧ Below W.heap.size W w') (hst : g = 0 → ∀ W, Below w.heap.size w W → Calls Tryz.prog 8 #[.agg #[.string ln, .string ld], .string sa, .string sb] W fun r w' => r = .returned (.tuple #[.agg #[.string sn, .string sd], .int .i64 h]) ∧ Below W.heap.size W w')
    (h7 : h = 0 ∨ h = 7)
    (hrs : h = 0 → ∀ W, Below w.heap.size w W → Calls Tryz.prog 11 #[.agg #[.string sn, .string sd]] W fun r w' => r = .returned (.bool true) ∧ Below W.heap.size W w')
    (hs : h = 0 → ∀ W, Below w.heap.size w W → Calls Tryz.prog 14 #[.agg #[.string sn, .string sd]] W fun r w' => r = .returned fS ∧ Below W.heap.size W w')
    (hmq : ∀ W, Below w.heap.size w W → Calls Tryz.prog 15 #[fQ] W fun r w' => r = .returned fQm ∧ Below W.heap.size W w')
    (hpl : ∀ W, Below w.heap.size w W → Calls Tryz.prog 13 #[fP, fQm] W fun r w' => r = .returned fPQ ∧ Below W.heap.size W w')
    (hcs : h = 0 → ∀ W, Below w.heap.size w W → Calls Tryz.prog 16 #[fS, fPQ] W fun r w' => r = .returned (.int .i64 0) ∧ Below W.heap.size W w') :
    Calls Tryz.prog 5 #[.agg #[.string n, .string d], .agg #[.string m, .string k], .int .i64 a, .int .i64 b] w fun r w' => r = .returned (.bool true) ∧ Below w.heap.size w w' := by
  obtain ⟨V, hV⟩ : ∃ V, V = (w.alloc (.cells #[.string n, .string d] 23)).alloc (.cells #[.string m, .string k] 23) := ⟨_, rfl⟩
  have BN0 : Hid (T2 V w.heap.size (.string n) (.string d)) := by rw [hV]; exact ⟨by simp [go_sem], by simp [go_sem], by simp [go_sem], by simp [go_sem]⟩
  have BM0 : Hid (T2 V (w.heap.size + 1) (.string m) (.string k)) := by rw [hV]; exact ⟨by simp [go_sem], by simp [go_sem], by simp [go_sem], by simp [go_sem]⟩
  have HB0 : Hid (Below w.heap.size w V) := by rw [hV]; exact ((Below.refl _ _).alloc (Nat.le_refl _) _).alloc (by simp) _
  have HV := hide hV
  have HR1 := hide hr1; have HR2 := hide hr2; have HO1 := hide ho1; have HO2 := hide ho2; have HT1 := hide ht1; have HT2 := hide ht2; have HAW := hide haw; have HRP := hide hrp; have HRQ := hide hrq; have HX := hide hx; have HY := hide hy; have HMY := hide hmy; have HD := hide hd; have HP := hide hp; have HQ := hide hq; have HPQ := hide hpq; have HZ := hide hz; have HDZ := hide hdz; have HTL := hide htl
  clear hV hr1 hr2 ho1 ho2 ht1 ht2 haw hrp hrq hx hy hmy hd hp hq hpq hz hdz htl
  have HST := hide hst; have H7 := hide h7; have HRS := hide hrs; have HSS := hide hs; have HMQ := hide hmq; have HPL := hide hpl; have HCS := hide hcs
  clear hst h7 hrs hs hmq hpl hcs
  go_enter Tryz.func5, Tryz.ntmps5
  go_upto_region 1 with fail
  rw [← unhide HV]
  clear HV
  have a0 := (unhide BN0).c0; have a1 := (unhide BN0).c1; have b0 := (unhide BM0).c0; have b1 := (unhide BM0).c1
  go_upto_region 3 with (first
    | (go_at_call_of 11 (Value.agg #[Value.string n, Value.string d]); go_must (refine (unhide HR1 _ (unhide HB0)).mono ?_; rintro e V1 ⟨rfl, hb⟩; have BN1 := hide ((unhide BN0).later hb); have BM1 := hide ((unhide BM0).later hb); have HB1 := hide ((unhide HB0).trans (hb.mono (unhide HB0).size)); clear hb a0 a1 b0 b1; have a0 := (unhide BN1).c0; have a1 := (unhide BN1).c1; have b0 := (unhide BM1).c0; have b1 := (unhide BM1).c1))
    | (go_at_call_of 11 (Value.agg #[Value.string m, Value.string k]); go_must (refine (unhide HR2 _ (unhide HB1)).mono ?_; rintro e V2 ⟨rfl, hb⟩; have BN2 := hide ((unhide BN1).later hb); have BM2 := hide ((unhide BM1).later hb); have HB2 := hide ((unhide HB1).trans (hb.mono (unhide HB1).size)); clear hb a0 a1 b0 b1)))
  go_cut [9, 10] from 27 (fun s9 s10 wx => ∃ g, s9 = .pointer (some ⟨g, 0, none⟩) ∧ s10 = .int .i64 0 ∧ Hid (T2 wx g (.string pn) (.string pd) ∧ Below V2.heap.size V2 wx))
  case first =>
    have t00 := (unhide BN2).c0; have t01 := (unhide BN2).c1
    have HC0 : Hid (Below V2.heap.size V2 V2.drew) := (Below.refl _ _).drew
    have HUP : Hid (∀ W, Below V2.heap.size V2 W → Below w.heap.size w W) := fun W h => (unhide HB2).trans (h.mono (unhide HB2).size)
    have HUA : Hid (∀ W O, Below V2.heap.size V2 W → Below w.heap.size w (W.alloc O)) := fun W O h => (unhide HB2).trans ((h.alloc h.size O).mono (unhide HB2).size)
    have HUD : Hid (∀ O, Below w.heap.size w (V2.alloc O).drew) := fun O => ((unhide HB2).alloc (unhide HB2).size O).drew
    have hv0 := (unhide BN2).lt
    go_region_held3 (fun w' => w'.cell? ⟨w.heap.size, 0, none⟩ = some (.string n) ∧ w'.cell? ⟨w.heap.size, 1, none⟩ = some (.string d)) (first | assumption | (simp [go_sem, *]; done)) ((first
      | (go_at_call 6; refine (unhide HT1 _ (by first | exact unhide HUP _ (unhide HCwb) | exact unhide HUA _ _ (unhide HCwb))).mono ?_; rintro e wd ⟨rfl, hb⟩; have HCwd : Hid (Below V2.heap.size V2 wd) := (by first | exact (unhide HCwb).trans (hb.mono (unhide HCwb).size) | exact bel_al (unhide HCwb) hb); (first | (have HZwd := hide ((unhide HZwb).later hb); clear u0 u1 uf0 uf1; have u0 := (unhide HZwd).c0; have u1 := (unhide HZwd).c1; have uf0 := (unhide HZwd).f0; have uf1 := (unhide HZwd).f1) | (have HZwd : Hid (T2 wd wb.heap.size (.string ⟨#[]⟩) (.string ⟨#[]⟩)) := (by first | exact T2.past hb | exact T2.pastD hb); have u0 := (unhide HZwd).c0; have u1 := (unhide HZwd).c1; have uf0 := (unhide HZwd).f0; have uf1 := (unhide HZwd).f1) | skip); clear hb t00 t01; have t00 := ((unhide BN2).later (unhide HCwd)).c0; have t01 := ((unhide BN2).later (unhide HCwd)).c1; have hv0wd := ((unhide BN2).later (unhide HCwd)).lt)
      | (go_at_call_of 12 b; refine (unhide HO2 _ (by first | exact unhide HUP _ (unhide HCwa) | exact unhide HUA _ _ (unhide HCwa))).mono ?_; rintro e wb ⟨rfl, hb⟩; have HCwb : Hid (Below V2.heap.size V2 wb) := (by first | exact (unhide HCwa).trans (hb.mono (unhide HCwa).size) | exact bel_al (unhide HCwa) hb); (first | (have HZwb := hide ((unhide HZwa).later hb); clear u0 u1 uf0 uf1; have u0 := (unhide HZwb).c0; have u1 := (unhide HZwb).c1; have uf0 := (unhide HZwb).f0; have uf1 := (unhide HZwb).f1) | (have HZwb : Hid (T2 wb wa.heap.size (.string ⟨#[]⟩) (.string ⟨#[]⟩)) := (by first | exact T2.past hb | exact T2.pastD hb); have u0 := (unhide HZwb).c0; have u1 := (unhide HZwb).c1; have uf0 := (unhide HZwb).f0; have uf1 := (unhide HZwb).f1) | skip); clear hb t00 t01; have t00 := ((unhide BN2).later (unhide HCwb)).c0; have t01 := ((unhide BN2).later (unhide HCwb)).c1; have hv0wb := ((unhide BN2).later (unhide HCwb)).lt)
      | (go_at_call_of 12 a; refine (unhide HO1 _ (by first | exact unhide HUP _ (unhide HC0) | exact unhide HUA _ _ (unhide HC0) | exact unhide HUD _)).mono ?_; rintro e wa ⟨rfl, hb⟩; have HCwa : Hid (Below V2.heap.size V2 wa) := (by first | exact (unhide HC0).trans (hb.mono (unhide HC0).size) | exact bel_al (unhide HC0) hb | exact bel_alD hb); (first | (have HZwa := hide ((unhide HZ0).later hb); clear u0 u1 uf0 uf1; have u0 := (unhide HZwa).c0; have u1 := (unhide HZwa).c1; have uf0 := (unhide HZwa).f0; have uf1 := (unhide HZwa).f1) | (have HZwa : Hid (T2 wa V2.heap.size (.string ⟨#[]⟩) (.string ⟨#[]⟩)) := (by first | exact T2.past hb | exact T2.pastD hb); have u0 := (unhide HZwa).c0; have u1 := (unhide HZwa).c1; have uf0 := (unhide HZwa).f0; have uf1 := (unhide HZwa).f1) | skip); clear hb t00 t01; have t00 := ((unhide BN2).later (unhide HCwa)).c0; have t01 := ((unhide BN2).later (unhide HCwa)).c1; have hv0wa := ((unhide BN2).later (unhide HCwa)).lt)))
    all_goals
      first
      | (obtain ⟨X, hX⟩ : ∃ X, X = wd.heap.size := ⟨_, rfl⟩
         obtain ⟨U, hU⟩ : ∃ U, U = wd.alloc (.cells #[.string pn, .string pd] 23) := ⟨_, rfl⟩
         have HF : Hid (T2 U X (.string pn) (.string pd) ∧ Below V2.heap.size V2 U) := by
           rw [hU, hX]
           exact ⟨⟨by simp [go_sem], by simp [go_sem], by simp [go_sem], by simp [go_sem]⟩, (unhide HCwd).alloc (unhide HCwd).size _⟩
         rw [← hU, ← hX]
         clear hU hX)
      | (obtain ⟨X, hX⟩ : ∃ X, X = wb.heap.size := ⟨_, rfl⟩
         obtain ⟨U, hU⟩ : ∃ U, U = ((wd.setCell { block := wb.heap.size, off := 0 } (.string pn)).setCell { block := wb.heap.size, off := 1 } (.string pd)) := ⟨_, rfl⟩
         have HF : Hid (T2 U X (.string pn) (.string pd) ∧ Below V2.heap.size V2 U) := by
           rw [hU, hX]
           exact ⟨(unhide HZwd).store _ _ , below_store2 (unhide HCwd) ((unhide HCwb).size) _ _ ⟩
         rw [← hU, ← hX]
         clear hU hX)
      | (obtain ⟨X, hX⟩ : ∃ X, X = wa.heap.size := ⟨_, rfl⟩
         obtain ⟨U, hU⟩ : ∃ U, U = ((wd.setCell { block := wa.heap.size, off := 0 } (.string pn)).setCell { block := wa.heap.size, off := 1 } (.string pd)) := ⟨_, rfl⟩
         have HF : Hid (T2 U X (.string pn) (.string pd) ∧ Below V2.heap.size V2 U) := by
           rw [hU, hX]
           exact ⟨(unhide HZwd).store _ _ , below_store2 (unhide HCwd) ((unhide HCwa).size) _ _ ⟩
         rw [← hU, ← hX]
         clear hU hX)
      | (obtain ⟨X, hX⟩ : ∃ X, X = V2.heap.size := ⟨_, rfl⟩
         obtain ⟨U, hU⟩ : ∃ U, U = ((wd.setCell { block := V2.heap.size, off := 0 } (.string pn)).setCell { block := V2.heap.size, off := 1 } (.string pd)) := ⟨_, rfl⟩
         have HF : Hid (T2 U X (.string pn) (.string pd) ∧ Below V2.heap.size V2 U) := by
           rw [hU, hX]
           exact ⟨(unhide HZwd).store _ _ , below_store2 (unhide HCwd) (Nat.le_refl _) _ _ ⟩
         rw [← hU, ← hX]
         clear hU hX)
    all_goals
      clear t00 t01
      go_wp2_with fail
      go_meet
      exact ⟨X, rfl, rfl, unhide HF⟩
  case rest =>
    obtain ⟨gV3, rfl, rfl, HTV3⟩ := hcut
    generalize wc = V3 at HTV3 ⊢
    have BN3 := hide ((unhide BN2).later (unhide HTV3).2)
    have BM3 := hide ((unhide BM2).later (unhide HTV3).2)
    have HB3 := hide ((unhide HB2).trans (((unhide HTV3).2).mono (unhide HB2).size))
    have BP3 := hide (unhide HTV3).1
    clear BN2 BM2 HB2
    clear HTV3
    go_upto_region 4 with fail
    go_cut [11, 12] from 27 (fun s9 s10 wx => ∃ g, s9 = .pointer (some ⟨g, 0, none⟩) ∧ s10 = .int .i64 0 ∧ Hid (T2 wx g (.string qn) (.string qd) ∧ Below V3.heap.size V3 wx))
    case first =>
      have t00 := (unhide BM3).c0; have t01 := (unhide BM3).c1
      have HC0 : Hid (Below V3.heap.size V3 V3.drew) := (Below.refl _ _).drew
      have HUP : Hid (∀ W, Below V3.heap.size V3 W → Below w.heap.size w W) := fun W h => (unhide HB3).trans (h.mono (unhide HB3).size)
      have HUA : Hid (∀ W O, Below V3.heap.size V3 W → Below w.heap.size w (W.alloc O)) := fun W O h => (unhide HB3).trans ((h.alloc h.size O).mono (unhide HB3).size)
      have HUD : Hid (∀ O, Below w.heap.size w (V3.alloc O).drew) := fun O => ((unhide HB3).alloc (unhide HB3).size O).drew
      have hv0 := (unhide BM3).lt
      go_region_held3 (fun w' => w'.cell? ⟨w.heap.size + 1, 0, none⟩ = some (.string m) ∧ w'.cell? ⟨w.heap.size + 1, 1, none⟩ = some (.string k)) (first | assumption | (simp [go_sem, *]; done)) ((first
        | (go_at_call 6; refine (unhide HT2 _ (by first | exact unhide HUP _ (unhide HCwb) | exact unhide HUA _ _ (unhide HCwb))).mono ?_; rintro e wd ⟨rfl, hb⟩; have HCwd : Hid (Below V3.heap.size V3 wd) := (by first | exact (unhide HCwb).trans (hb.mono (unhide HCwb).size) | exact bel_al (unhide HCwb) hb); (first | (have HZwd := hide ((unhide HZwb).later hb); clear u0 u1 uf0 uf1; have u0 := (unhide HZwd).c0; have u1 := (unhide HZwd).c1; have uf0 := (unhide HZwd).f0; have uf1 := (unhide HZwd).f1) | (have HZwd : Hid (T2 wd wb.heap.size (.string ⟨#[]⟩) (.string ⟨#[]⟩)) := (by first | exact T2.past hb | exact T2.pastD hb); have u0 := (unhide HZwd).c0; have u1 := (unhide HZwd).c1; have uf0 := (unhide HZwd).f0; have uf1 := (unhide HZwd).f1) | skip); clear hb t00 t01; have t00 := ((unhide BM3).later (unhide HCwd)).c0; have t01 := ((unhide BM3).later (unhide HCwd)).c1; have hv0wd := ((unhide BM3).later (unhide HCwd)).lt)
        | (go_at_call_of 12 b; refine (unhide HO2 _ (by first | exact unhide HUP _ (unhide HCwa) | exact unhide HUA _ _ (unhide HCwa))).mono ?_; rintro e wb ⟨rfl, hb⟩; have HCwb : Hid (Below V3.heap.size V3 wb) := (by first | exact (unhide HCwa).trans (hb.mono (unhide HCwa).size) | exact bel_al (unhide HCwa) hb); (first | (have HZwb := hide ((unhide HZwa).later hb); clear u0 u1 uf0 uf1; have u0 := (unhide HZwb).c0; have u1 := (unhide HZwb).c1; have uf0 := (unhide HZwb).f0; have uf1 := (unhide HZwb).f1) | (have HZwb : Hid (T2 wb wa.heap.size (.string ⟨#[]⟩) (.string ⟨#[]⟩)) := (by first | exact T2.past hb | exact T2.pastD hb); have u0 := (unhide HZwb).c0; have u1 := (unhide HZwb).c1; have uf0 := (unhide HZwb).f0; have uf1 := (unhide HZwb).f1) | skip); clear hb t00 t01; have t00 := ((unhide BM3).later (unhide HCwb)).c0; have t01 := ((unhide BM3).later (unhide HCwb)).c1; have hv0wb := ((unhide BM3).later (unhide HCwb)).lt)
        | (go_at_call_of 12 a; refine (unhide HO1 _ (by first | exact unhide HUP _ (unhide HC0) | exact unhide HUA _ _ (unhide HC0) | exact unhide HUD _)).mono ?_; rintro e wa ⟨rfl, hb⟩; have HCwa : Hid (Below V3.heap.size V3 wa) := (by first | exact (unhide HC0).trans (hb.mono (unhide HC0).size) | exact bel_al (unhide HC0) hb | exact bel_alD hb); (first | (have HZwa := hide ((unhide HZ0).later hb); clear u0 u1 uf0 uf1; have u0 := (unhide HZwa).c0; have u1 := (unhide HZwa).c1; have uf0 := (unhide HZwa).f0; have uf1 := (unhide HZwa).f1) | (have HZwa : Hid (T2 wa V3.heap.size (.string ⟨#[]⟩) (.string ⟨#[]⟩)) := (by first | exact T2.past hb | exact T2.pastD hb); have u0 := (unhide HZwa).c0; have u1 := (unhide HZwa).c1; have uf0 := (unhide HZwa).f0; have uf1 := (unhide HZwa).f1) | skip); clear hb t00 t01; have t00 := ((unhide BM3).later (unhide HCwa)).c0; have t01 := ((unhide BM3).later (unhide HCwa)).c1; have hv0wa := ((unhide BM3).later (unhide HCwa)).lt)))
      all_goals
        first
        | (obtain ⟨X, hX⟩ : ∃ X, X = wd.heap.size := ⟨_, rfl⟩
           obtain ⟨U, hU⟩ : ∃ U, U = wd.alloc (.cells #[.string qn, .string qd] 23) := ⟨_, rfl⟩
           have HF : Hid (T2 U X (.string qn) (.string qd) ∧ Below V3.heap.size V3 U) := by
             rw [hU, hX]
             exact ⟨⟨by simp [go_sem], by simp [go_sem], by simp [go_sem], by simp [go_sem]⟩, (unhide HCwd).alloc (unhide HCwd).size _⟩
           rw [← hU, ← hX]
           clear hU hX)
        | (obtain ⟨X, hX⟩ : ∃ X, X = wb.heap.size := ⟨_, rfl⟩
           obtain ⟨U, hU⟩ : ∃ U, U = ((wd.setCell { block := wb.heap.size, off := 0 } (.string qn)).setCell { block := wb.heap.size, off := 1 } (.string qd)) := ⟨_, rfl⟩
           have HF : Hid (T2 U X (.string qn) (.string qd) ∧ Below V3.heap.size V3 U) := by
             rw [hU, hX]
             exact ⟨(unhide HZwd).store _ _ , below_store2 (unhide HCwd) ((unhide HCwb).size) _ _ ⟩
           rw [← hU, ← hX]
           clear hU hX)
        | (obtain ⟨X, hX⟩ : ∃ X, X = wa.heap.size := ⟨_, rfl⟩
           obtain ⟨U, hU⟩ : ∃ U, U = ((wd.setCell { block := wa.heap.size, off := 0 } (.string qn)).setCell { block := wa.heap.size, off := 1 } (.string qd)) := ⟨_, rfl⟩
           have HF : Hid (T2 U X (.string qn) (.string qd) ∧ Below V3.heap.size V3 U) := by
             rw [hU, hX]
             exact ⟨(unhide HZwd).store _ _ , below_store2 (unhide HCwd) ((unhide HCwa).size) _ _ ⟩
           rw [← hU, ← hX]
           clear hU hX)
        | (obtain ⟨X, hX⟩ : ∃ X, X = V3.heap.size := ⟨_, rfl⟩
           obtain ⟨U, hU⟩ : ∃ U, U = ((wd.setCell { block := V3.heap.size, off := 0 } (.string qn)).setCell { block := V3.heap.size, off := 1 } (.string qd)) := ⟨_, rfl⟩
           have HF : Hid (T2 U X (.string qn) (.string qd) ∧ Below V3.heap.size V3 U) := by
             rw [hU, hX]
             exact ⟨(unhide HZwd).store _ _ , below_store2 (unhide HCwd) (Nat.le_refl _) _ _ ⟩
           rw [← hU, ← hX]
           clear hU hX)
      all_goals
        clear t00 t01
        go_wp2_with fail
        go_meet
        exact ⟨X, rfl, rfl, unhide HF⟩
    case rest =>
      obtain ⟨gV4, rfl, rfl, HTV4⟩ := hcut
      generalize wc = V4 at HTV4 ⊢
      have BN4 := hide ((unhide BN3).later (unhide HTV4).2)
      have BM4 := hide ((unhide BM3).later (unhide HTV4).2)
      have BP4 := hide ((unhide BP3).later (unhide HTV4).2)
      have HB4 := hide ((unhide HB3).trans (((unhide HTV4).2).mono (unhide HB3).size))
      have BQ4 := hide (unhide HTV4).1
      clear BN3 BM3 BP3 HB3
      clear HTV4
      have p0 := (unhide BP4).c0; have p1 := (unhide BP4).c1; have q0 := (unhide BQ4).c0; have q1 := (unhide BQ4).c1
      go_upto_region 9 with (first
        | (go_at_call_of 11 (Value.agg #[Value.string pn, Value.string pd]); go_must (refine (unhide HRP _ (unhide HB4)).mono ?_; rintro e V5 ⟨rfl, hb⟩; have BN5 := hide ((unhide BN4).later hb); have BM5 := hide ((unhide BM4).later hb); have BP5 := hide ((unhide BP4).later hb); have BQ5 := hide ((unhide BQ4).later hb); have HB5 := hide ((unhide HB4).trans (hb.mono (unhide HB4).size)); clear hb p0 p1 q0 q1; have p0 := (unhide BP5).c0; have p1 := (unhide BP5).c1; have q0 := (unhide BQ5).c0; have q1 := (unhide BQ5).c1))
        | (go_at_call_of 11 (Value.agg #[Value.string qn, Value.string qd]); go_must (refine (unhide HRQ _ (unhide HB5)).mono ?_; rintro e V6 ⟨rfl, hb⟩; have BN6 := hide ((unhide BN5).later hb); have BM6 := hide ((unhide BM5).later hb); have BP6 := hide ((unhide BP5).later hb); have BQ6 := hide ((unhide BQ5).later hb); have HB6 := hide ((unhide HB5).trans (hb.mono (unhide HB5).size)); clear hb p0 p1 q0 q1)))
      go_cut [13] from 27 (fun s9 wx => ∃ g, s9 = .pointer (some ⟨g, 0, none⟩) ∧ Hid (FBox wx g (.bool bd) (.string dn) (.string dd) ∧ Below V6.heap.size V6 wx))
      case first =>
        have t00 := (unhide BN6).c0; have t01 := (unhide BN6).c1; have t10 := (unhide BM6).c0; have t11 := (unhide BM6).c1
        have HC0 : Hid (Below V6.heap.size V6 V6.drew) := (Below.refl _ _).drew
        have HUP : Hid (∀ W, Below V6.heap.size V6 W → Below w.heap.size w W) := fun W h => (unhide HB6).trans (h.mono (unhide HB6).size)
        have HUA : Hid (∀ W O, Below V6.heap.size V6 W → Below w.heap.size w (W.alloc O)) := fun W O h => (unhide HB6).trans ((h.alloc h.size O).mono (unhide HB6).size)
        have HUD : Hid (∀ O, Below w.heap.size w (V6.alloc O).drew) := fun O => ((unhide HB6).alloc (unhide HB6).size O).drew
        have hv0 := (unhide BN6).lt; have hv1 := (unhide BM6).lt
        go_region_held3 (fun w' => w'.cell? ⟨w.heap.size, 0, none⟩ = some (.string n) ∧ w'.cell? ⟨w.heap.size, 1, none⟩ = some (.string d) ∧ w'.cell? ⟨w.heap.size + 1, 0, none⟩ = some (.string m) ∧ w'.cell? ⟨w.heap.size + 1, 1, none⟩ = some (.string k)) (first | assumption | (simp [go_sem, *]; done)) ((first
          | (go_at_call 13; refine (unhide HD _ (by first | exact unhide HUP _ (unhide HCwd) | exact unhide HUA _ _ (unhide HCwd))).mono ?_; rintro e wf ⟨rfl, hb⟩; have HCwf : Hid (Below V6.heap.size V6 wf) := (by first | exact (unhide HCwd).trans (hb.mono (unhide HCwd).size) | exact bel_al (unhide HCwd) hb); (first | (have HZwf := hide ((unhide HZwd).later hb); clear u0 u1 u2 uf0 uf1 uf2; have u0 := (unhide HZwf).c0; have u1 := (unhide HZwf).c1; have u2 := (unhide HZwf).c2; have uf0 := (unhide HZwf).f0; have uf1 := (unhide HZwf).f1; have uf2 := (unhide HZwf).f2) | (have HZwf : Hid (FBox wf wd.heap.size (.bool false) (.string ⟨#[]⟩) (.string ⟨#[]⟩)) := (by first | exact FBox.past33 hb | exact FBox.past33D hb); have u0 := (unhide HZwf).c0; have u1 := (unhide HZwf).c1; have u2 := (unhide HZwf).c2; have uf0 := (unhide HZwf).f0; have uf1 := (unhide HZwf).f1; have uf2 := (unhide HZwf).f2) | skip); clear hb t00 t01 t10 t11; have t00 := ((unhide BN6).later (unhide HCwf)).c0; have t01 := ((unhide BN6).later (unhide HCwf)).c1; have t10 := ((unhide BM6).later (unhide HCwf)).c0; have t11 := ((unhide BM6).later (unhide HCwf)).c1; have hv0wf := ((unhide BN6).later (unhide HCwf)).lt; have hv1wf := ((unhide BM6).later (unhide HCwf)).lt)
          | (go_at_call 15; refine (unhide HMY _ (by first | exact unhide HUP _ (unhide HCwb) | exact unhide HUA _ _ (unhide HCwb))).mono ?_; rintro e wd ⟨rfl, hb⟩; have HCwd : Hid (Below V6.heap.size V6 wd) := (by first | exact (unhide HCwb).trans (hb.mono (unhide HCwb).size) | exact bel_al (unhide HCwb) hb); (first | (have HZwd := hide ((unhide HZwb).later hb); clear u0 u1 u2 uf0 uf1 uf2; have u0 := (unhide HZwd).c0; have u1 := (unhide HZwd).c1; have u2 := (unhide HZwd).c2; have uf0 := (unhide HZwd).f0; have uf1 := (unhide HZwd).f1; have uf2 := (unhide HZwd).f2) | (have HZwd : Hid (FBox wd wb.heap.size (.bool false) (.string ⟨#[]⟩) (.string ⟨#[]⟩)) := (by first | exact FBox.past33 hb | exact FBox.past33D hb); have u0 := (unhide HZwd).c0; have u1 := (unhide HZwd).c1; have u2 := (unhide HZwd).c2; have uf0 := (unhide HZwd).f0; have uf1 := (unhide HZwd).f1; have uf2 := (unhide HZwd).f2) | skip); clear hb t00 t01 t10 t11; have t00 := ((unhide BN6).later (unhide HCwd)).c0; have t01 := ((unhide BN6).later (unhide HCwd)).c1; have t10 := ((unhide BM6).later (unhide HCwd)).c0; have t11 := ((unhide BM6).later (unhide HCwd)).c1; have hv0wd := ((unhide BN6).later (unhide HCwd)).lt; have hv1wd := ((unhide BM6).later (unhide HCwd)).lt)
          | (go_at_call_of 14 m; refine (unhide HY _ (by first | exact unhide HUP _ (unhide HCwa) | exact unhide HUA _ _ (unhide HCwa))).mono ?_; rintro e wb ⟨rfl, hb⟩; have HCwb : Hid (Below V6.heap.size V6 wb) := (by first | exact (unhide HCwa).trans (hb.mono (unhide HCwa).size) | exact bel_al (unhide HCwa) hb); (first | (have HZwb := hide ((unhide HZwa).later hb); clear u0 u1 u2 uf0 uf1 uf2; have u0 := (unhide HZwb).c0; have u1 := (unhide HZwb).c1; have u2 := (unhide HZwb).c2; have uf0 := (unhide HZwb).f0; have uf1 := (unhide HZwb).f1; have uf2 := (unhide HZwb).f2) | (have HZwb : Hid (FBox wb wa.heap.size (.bool false) (.string ⟨#[]⟩) (.string ⟨#[]⟩)) := (by first | exact FBox.past33 hb | exact FBox.past33D hb); have u0 := (unhide HZwb).c0; have u1 := (unhide HZwb).c1; have u2 := (unhide HZwb).c2; have uf0 := (unhide HZwb).f0; have uf1 := (unhide HZwb).f1; have uf2 := (unhide HZwb).f2) | skip); clear hb t00 t01 t10 t11; have t00 := ((unhide BN6).later (unhide HCwb)).c0; have t01 := ((unhide BN6).later (unhide HCwb)).c1; have t10 := ((unhide BM6).later (unhide HCwb)).c0; have t11 := ((unhide BM6).later (unhide HCwb)).c1; have hv0wb := ((unhide BN6).later (unhide HCwb)).lt; have hv1wb := ((unhide BM6).later (unhide HCwb)).lt)
          | (go_at_call_of 14 n; refine (unhide HX _ (by first | exact unhide HUP _ (unhide HC0) | exact unhide HUA _ _ (unhide HC0) | exact unhide HUD _)).mono ?_; rintro e wa ⟨rfl, hb⟩; have HCwa : Hid (Below V6.heap.size V6 wa) := (by first | exact (unhide HC0).trans (hb.mono (unhide HC0).size) | exact bel_al (unhide HC0) hb | exact bel_alD hb); (first | (have HZwa := hide ((unhide HZ0).later hb); clear u0 u1 u2 uf0 uf1 uf2; have u0 := (unhide HZwa).c0; have u1 := (unhide HZwa).c1; have u2 := (unhide HZwa).c2; have uf0 := (unhide HZwa).f0; have uf1 := (unhide HZwa).f1; have uf2 := (unhide HZwa).f2) | (have HZwa : Hid (FBox wa V6.heap.size (.bool false) (.string ⟨#[]⟩) (.string ⟨#[]⟩)) := (by first | exact FBox.past33 hb | exact FBox.past33D hb); have u0 := (unhide HZwa).c0; have u1 := (unhide HZwa).c1; have u2 := (unhide HZwa).c2; have uf0 := (unhide HZwa).f0; have uf1 := (unhide HZwa).f1; have uf2 := (unhide HZwa).f2) | skip); clear hb t00 t01 t10 t11; have t00 := ((unhide BN6).later (unhide HCwa)).c0; have t01 := ((unhide BN6).later (unhide HCwa)).c1; have t10 := ((unhide BM6).later (unhide HCwa)).c0; have t11 := ((unhide BM6).later (unhide HCwa)).c1; have hv0wa := ((unhide BN6).later (unhide HCwa)).lt; have hv1wa := ((unhide BM6).later (unhide HCwa)).lt)))
        all_goals
          first
          | (obtain ⟨X, hX⟩ : ∃ X, X = wf.heap.size := ⟨_, rfl⟩
             obtain ⟨U, hU⟩ : ∃ U, U = wf.alloc (.cells #[.bool bd, .string dn, .string dd] 33) := ⟨_, rfl⟩
             have HF : Hid (FBox U X (.bool bd) (.string dn) (.string dd) ∧ Below V6.heap.size V6 U) := by
               rw [hU, hX]
               exact ⟨⟨by simp [go_sem], by simp [go_sem], by simp [go_sem], by simp [go_sem], by simp [go_sem], by simp [go_sem]⟩, (unhide HCwf).alloc (unhide HCwf).size _⟩
             rw [← hU, ← hX]
             clear hU hX)
          | (obtain ⟨X, hX⟩ : ∃ X, X = wd.heap.size := ⟨_, rfl⟩
             obtain ⟨U, hU⟩ : ∃ U, U = (((wf.setCell { block := wd.heap.size, off := 0 } (.bool bd)).setCell { block := wd.heap.size, off := 1 } (.string dn)).setCell { block := wd.heap.size, off := 2 } (.string dd)) := ⟨_, rfl⟩
             have HF : Hid (FBox U X (.bool bd) (.string dn) (.string dd) ∧ Below V6.heap.size V6 U) := by
               rw [hU, hX]
               exact ⟨(unhide HZwf).store _ _ _ , below_store3 (unhide HCwf) ((unhide HCwd).size) _ _ _ ⟩
             rw [← hU, ← hX]
             clear hU hX)
          | (obtain ⟨X, hX⟩ : ∃ X, X = wb.heap.size := ⟨_, rfl⟩
             obtain ⟨U, hU⟩ : ∃ U, U = (((wf.setCell { block := wb.heap.size, off := 0 } (.bool bd)).setCell { block := wb.heap.size, off := 1 } (.string dn)).setCell { block := wb.heap.size, off := 2 } (.string dd)) := ⟨_, rfl⟩
             have HF : Hid (FBox U X (.bool bd) (.string dn) (.string dd) ∧ Below V6.heap.size V6 U) := by
               rw [hU, hX]
               exact ⟨(unhide HZwf).store _ _ _ , below_store3 (unhide HCwf) ((unhide HCwb).size) _ _ _ ⟩
             rw [← hU, ← hX]
             clear hU hX)
          | (obtain ⟨X, hX⟩ : ∃ X, X = wa.heap.size := ⟨_, rfl⟩
             obtain ⟨U, hU⟩ : ∃ U, U = (((wf.setCell { block := wa.heap.size, off := 0 } (.bool bd)).setCell { block := wa.heap.size, off := 1 } (.string dn)).setCell { block := wa.heap.size, off := 2 } (.string dd)) := ⟨_, rfl⟩
             have HF : Hid (FBox U X (.bool bd) (.string dn) (.string dd) ∧ Below V6.heap.size V6 U) := by
               rw [hU, hX]
               exact ⟨(unhide HZwf).store _ _ _ , below_store3 (unhide HCwf) ((unhide HCwa).size) _ _ _ ⟩
             rw [← hU, ← hX]
             clear hU hX)
          | (obtain ⟨X, hX⟩ : ∃ X, X = V6.heap.size := ⟨_, rfl⟩
             obtain ⟨U, hU⟩ : ∃ U, U = (((wf.setCell { block := V6.heap.size, off := 0 } (.bool bd)).setCell { block := V6.heap.size, off := 1 } (.string dn)).setCell { block := V6.heap.size, off := 2 } (.string dd)) := ⟨_, rfl⟩
             have HF : Hid (FBox U X (.bool bd) (.string dn) (.string dd) ∧ Below V6.heap.size V6 U) := by
               rw [hU, hX]
               exact ⟨(unhide HZwf).store _ _ _ , below_store3 (unhide HCwf) (Nat.le_refl _) _ _ _ ⟩
             rw [← hU, ← hX]
             clear hU hX)
        all_goals
          clear t00 t01 t10 t11
          go_wp2_with fail
          go_meet
          exact ⟨X, rfl, unhide HF⟩
      case rest =>
        obtain ⟨gV7, rfl, HTV7⟩ := hcut
        generalize wc = V7 at HTV7 ⊢
        have BN7 := hide ((unhide BN6).later (unhide HTV7).2)
        have BM7 := hide ((unhide BM6).later (unhide HTV7).2)
        have BP7 := hide ((unhide BP6).later (unhide HTV7).2)
        have BQ7 := hide ((unhide BQ6).later (unhide HTV7).2)
        have HB7 := hide ((unhide HB6).trans (((unhide HTV7).2).mono (unhide HB6).size))
        have BD7 := hide (unhide HTV7).1
        clear BN6 BM6 BP6 BQ6 HB6
        clear HTV7
        go_upto_region 10 with fail
        have HUQ : Hid (∀ W, Below V7.heap.size V7 W → Below w.heap.size w W) := fun W h => (unhide HB7).trans (h.mono (unhide HB7).size)
        have q0 : ∀ xz : Later V7, xz.world.cell? ⟨gV3, 0, none⟩ = some (.string pn) := fun xz => ((unhide BP7).later xz.below).c0
        have q1 : ∀ xz : Later V7, xz.world.cell? ⟨gV3, 1, none⟩ = some (.string pd) := fun xz => ((unhide BP7).later xz.below).c1
        have q2 : ∀ xz : Later V7, xz.world.cell? ⟨gV4, 0, none⟩ = some (.string qn) := fun xz => ((unhide BQ7).later xz.below).c0
        have q3 : ∀ xz : Later V7, xz.world.cell? ⟨gV4, 1, none⟩ = some (.string qd) := fun xz => ((unhide BQ7).later xz.below).c1
        have q4 : ∀ xz : Later V7, xz.world.cell? ⟨gV7, 0, none⟩ = some (.bool bd) := fun xz => ((unhide BD7).later xz.below).c0
        have q5 : ∀ xz : Later V7, xz.world.cell? ⟨gV7, 1, none⟩ = some (.string dn) := fun xz => ((unhide BD7).later xz.below).c1
        have q6 : ∀ xz : Later V7, xz.world.cell? ⟨gV7, 2, none⟩ = some (.string dd) := fun xz => ((unhide BD7).later xz.below).c2
        refine quiet_later (by kernel_rfl) (by kernel_rfl) ?_
        repeat (go_big_quiet_step (first
            | (go_at_call_of 14 pn; rename_i xx; refine (unhide HP xx.world (unhide HUQ _ xx.below)).mono ?_; rintro e w9 ⟨rfl, hb9⟩; have hz := xx.below.trans (hb9.mono xx.below.size); first | exact ⟨rfl, ⟨w9, hz⟩, rfl⟩ | exact ⟨rfl, hz⟩ | exact ⟨rfl, w9, hz, rfl⟩)
            | (go_at_call_of 14 qn; rename_i xx; refine (unhide HQ xx.world (unhide HUQ _ xx.below)).mono ?_; rintro e w9 ⟨rfl, hb9⟩; have hz := xx.below.trans (hb9.mono xx.below.size); first | exact ⟨rfl, ⟨w9, hz⟩, rfl⟩ | exact ⟨rfl, hz⟩ | exact ⟨rfl, w9, hz, rfl⟩)
            | (go_at_call_of 16 fP; rename_i xx; refine (unhide HPQ xx.world (unhide HUQ _ xx.below)).mono ?_; rintro e w9 ⟨rfl, hb9⟩; have hz := xx.below.trans (hb9.mono xx.below.size); first | exact ⟨rfl, ⟨w9, hz⟩, rfl⟩ | exact ⟨rfl, hz⟩ | exact ⟨rfl, w9, hz, rfl⟩)
            | (go_at_call 17; rename_i xx; refine (unhide HZ xx.world (unhide HUQ _ xx.below)).mono ?_; rintro e w9 ⟨rfl, hb9⟩; have hz := xx.below.trans (hb9.mono xx.below.size); first | exact ⟨rfl, ⟨w9, hz⟩, rfl⟩ | exact ⟨rfl, hz⟩ | exact ⟨rfl, w9, hz, rfl⟩)
            | (go_at_call_of 16 fZ; rename_i xx; refine (unhide HDZ xx.world (unhide HUQ _ xx.below)).mono ?_; rintro e w9 ⟨rfl, hb9⟩; have hz := xx.below.trans (hb9.mono xx.below.size); first | exact ⟨rfl, ⟨w9, hz⟩, rfl⟩ | exact ⟨rfl, hz⟩ | exact ⟨rfl, w9, hz, rfl⟩)))
        refine wpQuiet_nil ?_
        intro _ hw'
        obtain ⟨xz, hw''⟩ := hw'
        subst hw''
        have HXZ := hide xz.below
        obtain ⟨G, hG⟩ : ∃ G, G = xz.world := ⟨_, rfl⟩
        rw [← hG] at HXZ ⊢
        clear q0 q1 q2 q3 q4 q5 q6 hG xz HUQ
        generalize G = V8 at HXZ ⊢
        have BN8 := hide ((unhide BN7).later (unhide HXZ))
        have BM8 := hide ((unhide BM7).later (unhide HXZ))
        have BP8 := hide ((unhide BP7).later (unhide HXZ))
        have BQ8 := hide ((unhide BQ7).later (unhide HXZ))
        have BD8 := hide ((unhide BD7).later (unhide HXZ))
        have HB8 := hide ((unhide HB7).trans (((unhide HXZ)).mono (unhide HB7).size))
        clear BN7 BM7 BP7 BQ7 BD7 HB7
        clear HXZ
        have d0 := (unhide BD8).c0; have d1 := (unhide BD8).c1; have d2 := (unhide BD8).c2
        go_upto_region 13 with (go_at_call 18; go_must (refine (unhide HTL _ (unhide HB8)).mono ?_; rintro e V9 ⟨rfl, hb⟩; have BN9 := hide ((unhide BN8).later hb); have BM9 := hide ((unhide BM8).later hb); have BP9 := hide ((unhide BP8).later hb); have BQ9 := hide ((unhide BQ8).later hb); have BD9 := hide ((unhide BD8).later hb); have HB9 := hide ((unhide HB8).trans (hb.mono (unhide HB8).size)); clear hb d0 d1 d2))
        have HTV10 : Hid (T2 (V9.alloc (.cells #[.string ln, .string ld] 23)) V9.heap.size (.string ln) (.string ld) ∧ Below V9.heap.size V9 (V9.alloc (.cells #[.string ln, .string ld] 23))) := ⟨⟨by simp [go_sem], by simp [go_sem], by simp [go_sem], by simp [go_sem]⟩, (Below.refl _ _).alloc (Nat.le_refl _) _⟩
        obtain ⟨gV10, hg10⟩ : ∃ gV10, gV10 = V9.heap.size := ⟨_, rfl⟩
        obtain ⟨V10, hV10⟩ : ∃ V10, V10 = V9.alloc (.cells #[.string ln, .string ld] 23) := ⟨_, rfl⟩
        rw [← hV10] at HTV10 ⊢
        have BN10 := hide ((unhide BN9).later (unhide HTV10).2)
        have BM10 := hide ((unhide BM9).later (unhide HTV10).2)
        have BP10 := hide ((unhide BP9).later (unhide HTV10).2)
        have BQ10 := hide ((unhide BQ9).later (unhide HTV10).2)
        have BD10 := hide ((unhide BD9).later (unhide HTV10).2)
        have HB10 := hide ((unhide HB9).trans (((unhide HTV10).2).mono (unhide HB9).size))
        have BL10 := hide (unhide HTV10).1
        clear BN9 BM9 BP9 BQ9 BD9 HB9
        rw [← hg10] at BL10 ⊢
        clear HTV10 hg10 hV10
        by_cases hg : g = 0
        · subst hg
          have HST0 := hide (unhide HST rfl)
          clear HST
          go_upto_region 15 with fail
          go_cut [16, 17] from 27 (fun s9 s10 wx => ∃ g, s9 = .pointer (some ⟨g, 0, none⟩) ∧ s10 = .int .i64 h ∧ Hid (T2 wx g (.string sn) (.string sd) ∧ Below V10.heap.size V10 wx))
          case first =>
            have t00 := (unhide BL10).c0; have t01 := (unhide BL10).c1
            have HC0 : Hid (Below V10.heap.size V10 V10.drew) := (Below.refl _ _).drew
            have HUP : Hid (∀ W, Below V10.heap.size V10 W → Below w.heap.size w W) := fun W h => (unhide HB10).trans (h.mono (unhide HB10).size)
            have HUA : Hid (∀ W O, Below V10.heap.size V10 W → Below w.heap.size w (W.alloc O)) := fun W O h => (unhide HB10).trans ((h.alloc h.size O).mono (unhide HB10).size)
            have HUD : Hid (∀ O, Below w.heap.size w (V10.alloc O).drew) := fun O => ((unhide HB10).alloc (unhide HB10).size O).drew
            have hv0 := (unhide BL10).lt
            go_region_held3 (fun w' => w'.cell? ⟨gV10, 0, none⟩ = some (.string ln) ∧ w'.cell? ⟨gV10, 1, none⟩ = some (.string ld)) (first | assumption | (simp [go_sem, *]; done)) ((first
              | (go_at_call 8; refine (unhide HST0 _ (by first | exact unhide HUP _ (unhide HCwb) | exact unhide HUA _ _ (unhide HCwb))).mono ?_; rintro e wd ⟨rfl, hb⟩; have HCwd : Hid (Below V10.heap.size V10 wd) := (by first | exact (unhide HCwb).trans (hb.mono (unhide HCwb).size) | exact bel_al (unhide HCwb) hb); (first | (have HZwd := hide ((unhide HZwb).later hb); clear u0 u1 uf0 uf1; have u0 := (unhide HZwd).c0; have u1 := (unhide HZwd).c1; have uf0 := (unhide HZwd).f0; have uf1 := (unhide HZwd).f1) | (have HZwd : Hid (T2 wd wb.heap.size (.string ⟨#[]⟩) (.string ⟨#[]⟩)) := (by first | exact T2.past hb | exact T2.pastD hb); have u0 := (unhide HZwd).c0; have u1 := (unhide HZwd).c1; have uf0 := (unhide HZwd).f0; have uf1 := (unhide HZwd).f1) | skip); clear hb t00 t01; have t00 := ((unhide BL10).later (unhide HCwd)).c0; have t01 := ((unhide BL10).later (unhide HCwd)).c1; have hv0wd := ((unhide BL10).later (unhide HCwd)).lt)
              | (go_at_call_of 12 b; refine (unhide HO2 _ (by first | exact unhide HUP _ (unhide HCwa) | exact unhide HUA _ _ (unhide HCwa))).mono ?_; rintro e wb ⟨rfl, hb⟩; have HCwb : Hid (Below V10.heap.size V10 wb) := (by first | exact (unhide HCwa).trans (hb.mono (unhide HCwa).size) | exact bel_al (unhide HCwa) hb); (first | (have HZwb := hide ((unhide HZwa).later hb); clear u0 u1 uf0 uf1; have u0 := (unhide HZwb).c0; have u1 := (unhide HZwb).c1; have uf0 := (unhide HZwb).f0; have uf1 := (unhide HZwb).f1) | (have HZwb : Hid (T2 wb wa.heap.size (.string ⟨#[]⟩) (.string ⟨#[]⟩)) := (by first | exact T2.past hb | exact T2.pastD hb); have u0 := (unhide HZwb).c0; have u1 := (unhide HZwb).c1; have uf0 := (unhide HZwb).f0; have uf1 := (unhide HZwb).f1) | skip); clear hb t00 t01; have t00 := ((unhide BL10).later (unhide HCwb)).c0; have t01 := ((unhide BL10).later (unhide HCwb)).c1; have hv0wb := ((unhide BL10).later (unhide HCwb)).lt)
              | (go_at_call_of 12 a; refine (unhide HO1 _ (by first | exact unhide HUP _ (unhide HC0) | exact unhide HUA _ _ (unhide HC0) | exact unhide HUD _)).mono ?_; rintro e wa ⟨rfl, hb⟩; have HCwa : Hid (Below V10.heap.size V10 wa) := (by first | exact (unhide HC0).trans (hb.mono (unhide HC0).size) | exact bel_al (unhide HC0) hb | exact bel_alD hb); (first | (have HZwa := hide ((unhide HZ0).later hb); clear u0 u1 uf0 uf1; have u0 := (unhide HZwa).c0; have u1 := (unhide HZwa).c1; have uf0 := (unhide HZwa).f0; have uf1 := (unhide HZwa).f1) | (have HZwa : Hid (T2 wa V10.heap.size (.string ⟨#[]⟩) (.string ⟨#[]⟩)) := (by first | exact T2.past hb | exact T2.pastD hb); have u0 := (unhide HZwa).c0; have u1 := (unhide HZwa).c1; have uf0 := (unhide HZwa).f0; have uf1 := (unhide HZwa).f1) | skip); clear hb t00 t01; have t00 := ((unhide BL10).later (unhide HCwa)).c0; have t01 := ((unhide BL10).later (unhide HCwa)).c1; have hv0wa := ((unhide BL10).later (unhide HCwa)).lt)))
            all_goals
              first
              | (obtain ⟨X, hX⟩ : ∃ X, X = wd.heap.size := ⟨_, rfl⟩
                 obtain ⟨U, hU⟩ : ∃ U, U = wd.alloc (.cells #[.string sn, .string sd] 23) := ⟨_, rfl⟩
                 have HF : Hid (T2 U X (.string sn) (.string sd) ∧ Below V10.heap.size V10 U) := by
                   rw [hU, hX]
                   exact ⟨⟨by simp [go_sem], by simp [go_sem], by simp [go_sem], by simp [go_sem]⟩, (unhide HCwd).alloc (unhide HCwd).size _⟩
                 rw [← hU, ← hX]
                 clear hU hX)
              | (obtain ⟨X, hX⟩ : ∃ X, X = wb.heap.size := ⟨_, rfl⟩
                 obtain ⟨U, hU⟩ : ∃ U, U = ((wd.setCell { block := wb.heap.size, off := 0 } (.string sn)).setCell { block := wb.heap.size, off := 1 } (.string sd)) := ⟨_, rfl⟩
                 have HF : Hid (T2 U X (.string sn) (.string sd) ∧ Below V10.heap.size V10 U) := by
                   rw [hU, hX]
                   exact ⟨(unhide HZwd).store _ _ , below_store2 (unhide HCwd) ((unhide HCwb).size) _ _ ⟩
                 rw [← hU, ← hX]
                 clear hU hX)
              | (obtain ⟨X, hX⟩ : ∃ X, X = wa.heap.size := ⟨_, rfl⟩
                 obtain ⟨U, hU⟩ : ∃ U, U = ((wd.setCell { block := wa.heap.size, off := 0 } (.string sn)).setCell { block := wa.heap.size, off := 1 } (.string sd)) := ⟨_, rfl⟩
                 have HF : Hid (T2 U X (.string sn) (.string sd) ∧ Below V10.heap.size V10 U) := by
                   rw [hU, hX]
                   exact ⟨(unhide HZwd).store _ _ , below_store2 (unhide HCwd) ((unhide HCwa).size) _ _ ⟩
                 rw [← hU, ← hX]
                 clear hU hX)
              | (obtain ⟨X, hX⟩ : ∃ X, X = V10.heap.size := ⟨_, rfl⟩
                 obtain ⟨U, hU⟩ : ∃ U, U = ((wd.setCell { block := V10.heap.size, off := 0 } (.string sn)).setCell { block := V10.heap.size, off := 1 } (.string sd)) := ⟨_, rfl⟩
                 have HF : Hid (T2 U X (.string sn) (.string sd) ∧ Below V10.heap.size V10 U) := by
                   rw [hU, hX]
                   exact ⟨(unhide HZwd).store _ _ , below_store2 (unhide HCwd) (Nat.le_refl _) _ _ ⟩
                 rw [← hU, ← hX]
                 clear hU hX)
            all_goals
              clear t00 t01
              go_wp2_with fail
              go_meet
              exact ⟨X, rfl, rfl, unhide HF⟩
          case rest =>
            obtain ⟨gV11, rfl, rfl, HTV11⟩ := hcut
            generalize wc = V11 at HTV11 ⊢
            have BN11 := hide ((unhide BN10).later (unhide HTV11).2)
            have BM11 := hide ((unhide BM10).later (unhide HTV11).2)
            have BP11 := hide ((unhide BP10).later (unhide HTV11).2)
            have BQ11 := hide ((unhide BQ10).later (unhide HTV11).2)
            have BD11 := hide ((unhide BD10).later (unhide HTV11).2)
            have BL11 := hide ((unhide BL10).later (unhide HTV11).2)
            have HB11 := hide ((unhide HB10).trans (((unhide HTV11).2).mono (unhide HB10).size))
            have BS11 := hide (unhide HTV11).1
            clear BN10 BM10 BP10 BQ10 BD10 BL10 HB10
            clear HTV11
            rcases unhide H7 with h0 | h7
            · subst h0
              have HRS0 := hide (unhide HRS rfl); have HSS0 := hide (unhide HSS rfl); have HCS0 := hide (unhide HCS rfl)
              clear HRS HSS HCS H7
              go_upto_region 18 with fail
              have HUQ : Hid (∀ W, Below V11.heap.size V11 W → Below w.heap.size w W) := fun W h => (unhide HB11).trans (h.mono (unhide HB11).size)
              have q0 : ∀ xz : Later V11, xz.world.cell? ⟨gV11, 0, none⟩ = some (.string sn) := fun xz => ((unhide BS11).later xz.below).c0
              have q1 : ∀ xz : Later V11, xz.world.cell? ⟨gV11, 1, none⟩ = some (.string sd) := fun xz => ((unhide BS11).later xz.below).c1
              have q2 : ∀ xz : Later V11, xz.world.cell? ⟨gV3, 0, none⟩ = some (.string pn) := fun xz => ((unhide BP11).later xz.below).c0
              have q3 : ∀ xz : Later V11, xz.world.cell? ⟨gV3, 1, none⟩ = some (.string pd) := fun xz => ((unhide BP11).later xz.below).c1
              have q4 : ∀ xz : Later V11, xz.world.cell? ⟨gV4, 0, none⟩ = some (.string qn) := fun xz => ((unhide BQ11).later xz.below).c0
              have q5 : ∀ xz : Later V11, xz.world.cell? ⟨gV4, 1, none⟩ = some (.string qd) := fun xz => ((unhide BQ11).later xz.below).c1
              refine quiet_later (by kernel_rfl) (by kernel_rfl) ?_
              repeat (go_big_quiet_step (first
                  | (go_at_call 11; rename_i xx; refine (unhide HRS0 xx.world (unhide HUQ _ xx.below)).mono ?_; rintro e w9 ⟨rfl, hb9⟩; have hz := xx.below.trans (hb9.mono xx.below.size); first | exact ⟨rfl, ⟨w9, hz⟩, rfl⟩ | exact ⟨rfl, hz⟩ | exact ⟨rfl, w9, hz, rfl⟩)
                  | (go_at_call_of 14 sn; rename_i xx; refine (unhide HSS0 xx.world (unhide HUQ _ xx.below)).mono ?_; rintro e w9 ⟨rfl, hb9⟩; have hz := xx.below.trans (hb9.mono xx.below.size); first | exact ⟨rfl, ⟨w9, hz⟩, rfl⟩ | exact ⟨rfl, hz⟩ | exact ⟨rfl, w9, hz, rfl⟩)
                  | (go_at_call_of 14 pn; rename_i xx; refine (unhide HP xx.world (unhide HUQ _ xx.below)).mono ?_; rintro e w9 ⟨rfl, hb9⟩; have hz := xx.below.trans (hb9.mono xx.below.size); first | exact ⟨rfl, ⟨w9, hz⟩, rfl⟩ | exact ⟨rfl, hz⟩ | exact ⟨rfl, w9, hz, rfl⟩)
                  | (go_at_call_of 14 qn; rename_i xx; refine (unhide HQ xx.world (unhide HUQ _ xx.below)).mono ?_; rintro e w9 ⟨rfl, hb9⟩; have hz := xx.below.trans (hb9.mono xx.below.size); first | exact ⟨rfl, ⟨w9, hz⟩, rfl⟩ | exact ⟨rfl, hz⟩ | exact ⟨rfl, w9, hz, rfl⟩)
                  | (go_at_call 15; rename_i xx; refine (unhide HMQ xx.world (unhide HUQ _ xx.below)).mono ?_; rintro e w9 ⟨rfl, hb9⟩; have hz := xx.below.trans (hb9.mono xx.below.size); first | exact ⟨rfl, ⟨w9, hz⟩, rfl⟩ | exact ⟨rfl, hz⟩ | exact ⟨rfl, w9, hz, rfl⟩)
                  | (go_at_call 13; rename_i xx; refine (unhide HPL xx.world (unhide HUQ _ xx.below)).mono ?_; rintro e w9 ⟨rfl, hb9⟩; have hz := xx.below.trans (hb9.mono xx.below.size); first | exact ⟨rfl, ⟨w9, hz⟩, rfl⟩ | exact ⟨rfl, hz⟩ | exact ⟨rfl, w9, hz, rfl⟩)
                  | (go_at_call 16; rename_i xx; refine (unhide HCS0 xx.world (unhide HUQ _ xx.below)).mono ?_; rintro e w9 ⟨rfl, hb9⟩; have hz := xx.below.trans (hb9.mono xx.below.size); first | exact ⟨rfl, ⟨w9, hz⟩, rfl⟩ | exact ⟨rfl, hz⟩ | exact ⟨rfl, w9, hz, rfl⟩)
                  | (go_at_call 10; rename_i xx; refine (unhide HAW xx.world (unhide HUQ _ xx.below)).mono ?_; rintro e w9 ⟨rfl, hb9⟩; have hz := xx.below.trans (hb9.mono xx.below.size); first | exact ⟨rfl, ⟨w9, hz⟩, rfl⟩ | exact ⟨rfl, hz⟩ | exact ⟨rfl, w9, hz, rfl⟩)))
              refine wpQuiet_nil ?_
              intro _ hw'
              obtain ⟨xz, hw''⟩ := hw'
              subst hw''
              have HXZ := hide xz.below
              obtain ⟨G, hG⟩ : ∃ G, G = xz.world := ⟨_, rfl⟩
              rw [← hG] at HXZ ⊢
              clear q0 q1 q2 q3 q4 q5 hG xz HUQ
              have HE := hide ((unhide HB11).trans ((unhide HXZ).mono (unhide HB11).size))
              go_wp2_with fail
              go_ret
              exact ⟨rfl, unhide HE⟩
            · subst h7
              go_wp2_with (go_at_call 10; go_must (refine (unhide HAW _ (unhide HB11)).mono ?_; rintro e V12 ⟨rfl, hb⟩; have HB12 := hide ((unhide HB11).trans (hb.mono (unhide HB11).size)); clear hb))
              go_ret
              exact ⟨rfl, unhide HB12⟩
        · go_wp2_with (go_at_call 10; go_must (refine (unhide HAW _ (unhide HB10)).mono ?_; rintro e V11 ⟨rfl, hb⟩; have HB11 := hide ((unhide HB10).trans (hb.mono (unhide HB10).size)); clear hb))
          go_ret
          exact ⟨rfl, unhide HB11⟩
end Go.Proofs.YtimihoonnglniaaGreatDoor
