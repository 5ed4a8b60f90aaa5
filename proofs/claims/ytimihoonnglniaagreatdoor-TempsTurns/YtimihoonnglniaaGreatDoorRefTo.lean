/- The document's To and Step of temperatures. -/
import Derived.Test.YtimihoonnglniaaGreatDoorRefMaps
import Derived.Test.YtimihoonnglniaaGreatDoorStepsB
import Derived.Deep.Cut
namespace Go.Proofs.YtimihoonnglniaaGreatDoor
open Go.RowKit
set_option maxRecDepth 100000 in
set_option maxHeartbeats 8000000 in
theorem refTo_below (n d s t : ByteArray) (pn ps pf pg po pp : ByteArray) (pd0 pd1 pd2 pd3 pd4 pd5 pd6 pd7 pt : Int) (qn qs qf qg qo qp : ByteArray) (qd0 qd1 qd2 qd3 qd4 qd5 qd6 qd7 qt : Int) (kn kd : ByteArray) (fX : Value) (w : World)
    (hr : ∀ W, Below w.heap.size w W → Calls Tryz.prog 11 #[.agg #[.string n, .string d]] W fun r w' => r = .returned (.bool true) ∧ Below W.heap.size W w')
    (hfa : ∀ W, Below w.heap.size w W → Calls Tryz.prog 24 #[.string s] W fun r w' => r = .returned (.tuple #[.agg #[.string pn, .string ps, .int .i64 pd0, .int .i64 pd1, .int .i64 pd2, .int .i64 pd3, .int .i64 pd4, .int .i64 pd5, .int .i64 pd6, .int .i64 pd7, .string pf, .string pg, .string po, .string pp, .int .i64 pt], .bool true]) ∧ Below W.heap.size W w')
    (hfb : ∀ W, Below w.heap.size w W → Calls Tryz.prog 24 #[.string t] W fun r w' => r = .returned (.tuple #[.agg #[.string qn, .string qs, .int .i64 qd0, .int .i64 qd1, .int .i64 qd2, .int .i64 qd3, .int .i64 qd4, .int .i64 qd5, .int .i64 qd6, .int .i64 qd7, .string qf, .string qg, .string qo, .string qp, .int .i64 qt], .bool true]) ∧ Below W.heap.size W w')
    (hx : ∀ W, Below w.heap.size w W → Calls Tryz.prog 14 #[.agg #[.string n, .string d]] W fun r w' => r = .returned (fX) ∧ Below W.heap.size W w')
    (hk : ∀ W, Below w.heap.size w W → Calls Tryz.prog 25 #[.agg #[.string pn, .string ps, .int .i64 pd0, .int .i64 pd1, .int .i64 pd2, .int .i64 pd3, .int .i64 pd4, .int .i64 pd5, .int .i64 pd6, .int .i64 pd7, .string pf, .string pg, .string po, .string pp, .int .i64 pt], fX] W fun r w' => r = .returned (.agg #[.bool true, .string kn, .string kd]) ∧ Below W.heap.size W w') :
    Calls Tryz.prog 7 #[.agg #[.string n, .string d], .string s, .string t] w fun r w' => r = .returned (.tuple #[.agg #[.string ⟨#[]⟩, .string ⟨#[]⟩], .int .i64 9]) ∧ Below w.heap.size w w' := by
  obtain ⟨V, hV⟩ : ∃ V, V = (w.alloc (.cells #[.string n, .string d] 23)).alloc (.cells #[.string ⟨#[]⟩, .string ⟨#[]⟩] 23) := ⟨_, rfl⟩
  have BN0 : Hid (T2 V w.heap.size (.string n) (.string d)) := by rw [hV]; exact ⟨by simp [go_sem], by simp [go_sem], by simp [go_sem], by simp [go_sem]⟩
  have BR0 : Hid (T2 V (w.heap.size + 1) (.string ⟨#[]⟩) (.string ⟨#[]⟩)) := by rw [hV]; exact ⟨by simp [go_sem], by simp [go_sem], by simp [go_sem], by simp [go_sem]⟩
  have HB0 : Hid (Below w.heap.size w V) := by rw [hV]; exact ((Below.refl _ _).alloc (Nat.le_refl _) _).alloc (by simp) _
  have HV := hide hV
  have HR := hide hr; have HFA := hide hfa; have HFB := hide hfb; have HX := hide hx; have HK := hide hk
  clear hV hr hfa hfb hx hk
  go_enter Tryz.func7, Tryz.ntmps7
  go_upto_region 1 with fail
  rw [← unhide HV]
  clear HV
  have a0 := (unhide BN0).c0; have a1 := (unhide BN0).c1
  go_upto_region 3 with (go_at_call 11; go_must (refine (unhide HR _ (unhide HB0)).mono ?_; rintro e V1 ⟨rfl, hb⟩; have BN1 := hide ((unhide BN0).later hb); have BR1 := hide ((unhide BR0).later hb); have HB1 := hide ((unhide HB0).trans ((hb).mono (unhide HB0).size)); clear hb a0 a1))
  go_upto_region 4 with (go_at_call_of 24 s; go_must (refine (unhide HFA _ (unhide HB1)).mono ?_; rintro e V2 ⟨rfl, hb⟩; have BN2 := hide ((unhide BN1).later hb); have BR2 := hide ((unhide BR1).later hb); have HB2 := hide ((unhide HB1).trans ((hb).mono (unhide HB1).size)); clear hb))
  have HX : Hid (OwnU (V2.alloc (.cells #[.string pn, .string ps, .int .i64 pd0, .int .i64 pd1, .int .i64 pd2, .int .i64 pd3, .int .i64 pd4, .int .i64 pd5, .int .i64 pd6, .int .i64 pd7, .string pf, .string pg, .string po, .string pp, .int .i64 pt] 56)) V2.heap.size 56 #[.string pn, .string ps, .int .i64 pd0, .int .i64 pd1, .int .i64 pd2, .int .i64 pd3, .int .i64 pd4, .int .i64 pd5, .int .i64 pd6, .int .i64 pd7, .string pf, .string pg, .string po, .string pp, .int .i64 pt] ∧ Below V2.heap.size V2 (V2.alloc (.cells #[.string pn, .string ps, .int .i64 pd0, .int .i64 pd1, .int .i64 pd2, .int .i64 pd3, .int .i64 pd4, .int .i64 pd5, .int .i64 pd6, .int .i64 pd7, .string pf, .string pg, .string po, .string pp, .int .i64 pt] 56))) := ⟨OwnU.new _ _ _, (Below.refl _ _).alloc (Nat.le_refl _) _⟩
  obtain ⟨gA, hgA⟩ : ∃ gA, gA = V2.heap.size := ⟨_, rfl⟩
  obtain ⟨V3, hW⟩ : ∃ V3, V3 = V2.alloc (.cells #[.string pn, .string ps, .int .i64 pd0, .int .i64 pd1, .int .i64 pd2, .int .i64 pd3, .int .i64 pd4, .int .i64 pd5, .int .i64 pd6, .int .i64 pd7, .string pf, .string pg, .string po, .string pp, .int .i64 pt] 56) := ⟨_, rfl⟩
  rw [← hW] at HX ⊢
  have BN3 := hide ((unhide BN2).later (unhide HX).2); have BR3 := hide ((unhide BR2).later (unhide HX).2); have HB3 := hide ((unhide HB2).trans (((unhide HX).2).mono (unhide HB2).size))
  have BA3 := hide (unhide HX).1
  rw [← hgA] at BA3 ⊢
  clear HX hW hgA BN1 BR1 BN2 BR2 HB1 HB2
  go_upto_region 5 with (go_at_call_of 24 t; go_must (refine (unhide HFB _ (unhide HB3)).mono ?_; rintro e V4 ⟨rfl, hb⟩; have BN4 := hide ((unhide BN3).later hb); have BR4 := hide ((unhide BR3).later hb); have BA4 := hide ((unhide BA3).later hb); have HB4 := hide ((unhide HB3).trans ((hb).mono (unhide HB3).size)); clear hb))
  have HX : Hid (OwnU (V4.alloc (.cells #[.string qn, .string qs, .int .i64 qd0, .int .i64 qd1, .int .i64 qd2, .int .i64 qd3, .int .i64 qd4, .int .i64 qd5, .int .i64 qd6, .int .i64 qd7, .string qf, .string qg, .string qo, .string qp, .int .i64 qt] 56)) V4.heap.size 56 #[.string qn, .string qs, .int .i64 qd0, .int .i64 qd1, .int .i64 qd2, .int .i64 qd3, .int .i64 qd4, .int .i64 qd5, .int .i64 qd6, .int .i64 qd7, .string qf, .string qg, .string qo, .string qp, .int .i64 qt] ∧ Below V4.heap.size V4 (V4.alloc (.cells #[.string qn, .string qs, .int .i64 qd0, .int .i64 qd1, .int .i64 qd2, .int .i64 qd3, .int .i64 qd4, .int .i64 qd5, .int .i64 qd6, .int .i64 qd7, .string qf, .string qg, .string qo, .string qp, .int .i64 qt] 56))) := ⟨OwnU.new _ _ _, (Below.refl _ _).alloc (Nat.le_refl _) _⟩
  obtain ⟨gB, hgB⟩ : ∃ gB, gB = V4.heap.size := ⟨_, rfl⟩
  obtain ⟨V5, hW⟩ : ∃ V5, V5 = V4.alloc (.cells #[.string qn, .string qs, .int .i64 qd0, .int .i64 qd1, .int .i64 qd2, .int .i64 qd3, .int .i64 qd4, .int .i64 qd5, .int .i64 qd6, .int .i64 qd7, .string qf, .string qg, .string qo, .string qp, .int .i64 qt] 56) := ⟨_, rfl⟩
  rw [← hW] at HX ⊢
  have BN5 := hide ((unhide BN4).later (unhide HX).2); have BR5 := hide ((unhide BR4).later (unhide HX).2); have BA5 := hide ((unhide BA4).later (unhide HX).2); have HB5 := hide ((unhide HB4).trans (((unhide HX).2).mono (unhide HB4).size))
  have BB5 := hide (unhide HX).1
  rw [← hgB] at BB5 ⊢
  clear HX hW hgB BN3 BR3 BA3 BN4 BR4 BA4 HB3 HB4
  go_upto_region 7 with fail
  go_cut [12] from 27 (fun s9 wx => ∃ g, s9 = .pointer (some ⟨g, 0, none⟩) ∧ Hid (FBox wx g (.bool true) (.string kn) (.string kd) ∧ Below V5.heap.size V5 wx))
  case first =>
    have m0 : V5.cell? ⟨gA, 0, none⟩ = some (.string pn) := (unhide BA5).ub.c 0 _ rfl; have m1 : V5.cell? ⟨gA, 1, none⟩ = some (.string ps) := (unhide BA5).ub.c 1 _ rfl; have m2 : V5.cell? ⟨gA, 2, none⟩ = some (.int .i64 pd0) := (unhide BA5).ub.c 2 _ rfl; have m3 : V5.cell? ⟨gA, 3, none⟩ = some (.int .i64 pd1) := (unhide BA5).ub.c 3 _ rfl; have m4 : V5.cell? ⟨gA, 4, none⟩ = some (.int .i64 pd2) := (unhide BA5).ub.c 4 _ rfl; have m5 : V5.cell? ⟨gA, 5, none⟩ = some (.int .i64 pd3) := (unhide BA5).ub.c 5 _ rfl; have m6 : V5.cell? ⟨gA, 6, none⟩ = some (.int .i64 pd4) := (unhide BA5).ub.c 6 _ rfl; have m7 : V5.cell? ⟨gA, 7, none⟩ = some (.int .i64 pd5) := (unhide BA5).ub.c 7 _ rfl; have m8 : V5.cell? ⟨gA, 8, none⟩ = some (.int .i64 pd6) := (unhide BA5).ub.c 8 _ rfl; have m9 : V5.cell? ⟨gA, 9, none⟩ = some (.int .i64 pd7) := (unhide BA5).ub.c 9 _ rfl; have m10 : V5.cell? ⟨gA, 10, none⟩ = some (.string pf) := (unhide BA5).ub.c 10 _ rfl; have m11 : V5.cell? ⟨gA, 11, none⟩ = some (.string pg) := (unhide BA5).ub.c 11 _ rfl; have m12 : V5.cell? ⟨gA, 12, none⟩ = some (.string po) := (unhide BA5).ub.c 12 _ rfl; have m13 : V5.cell? ⟨gA, 13, none⟩ = some (.string pp) := (unhide BA5).ub.c 13 _ rfl; have m14 : V5.cell? ⟨gA, 14, none⟩ = some (.int .i64 pt) := (unhide BA5).ub.c 14 _ rfl; have a0 := (unhide BN5).c0; have a1 := (unhide BN5).c1
    have HC0 : Hid (Below V5.heap.size V5 V5.drew) := (Below.refl _ _).drew
    have HUP : Hid (∀ W, Below V5.heap.size V5 W → Below w.heap.size w W) := fun W h => (unhide HB5).trans (h.mono (unhide HB5).size)
    have HUA : Hid (∀ W O, Below V5.heap.size V5 W → Below w.heap.size w (W.alloc O)) := fun W O h => (unhide HB5).trans ((h.alloc h.size O).mono (unhide HB5).size)
    have HUD : Hid (∀ O, Below w.heap.size w (V5.alloc O).drew) := fun O => ((unhide HB5).alloc (unhide HB5).size O).drew
    have hva0 := (unhide BA5).lt; have hvb0 := (unhide BN5).lt
    go_region_held3 (fun w' => w'.cell? ⟨gA, 0, none⟩ = some (.string pn) ∧ w'.cell? ⟨gA, 1, none⟩ = some (.string ps) ∧ w'.cell? ⟨gA, 2, none⟩ = some (.int .i64 pd0) ∧ w'.cell? ⟨gA, 3, none⟩ = some (.int .i64 pd1) ∧ w'.cell? ⟨gA, 4, none⟩ = some (.int .i64 pd2) ∧ w'.cell? ⟨gA, 5, none⟩ = some (.int .i64 pd3) ∧ w'.cell? ⟨gA, 6, none⟩ = some (.int .i64 pd4) ∧ w'.cell? ⟨gA, 7, none⟩ = some (.int .i64 pd5) ∧ w'.cell? ⟨gA, 8, none⟩ = some (.int .i64 pd6) ∧ w'.cell? ⟨gA, 9, none⟩ = some (.int .i64 pd7) ∧ w'.cell? ⟨gA, 10, none⟩ = some (.string pf) ∧ w'.cell? ⟨gA, 11, none⟩ = some (.string pg) ∧ w'.cell? ⟨gA, 12, none⟩ = some (.string po) ∧ w'.cell? ⟨gA, 13, none⟩ = some (.string pp) ∧ w'.cell? ⟨gA, 14, none⟩ = some (.int .i64 pt) ∧ w'.cell? ⟨w.heap.size, 0, none⟩ = some (.string n) ∧ w'.cell? ⟨w.heap.size, 1, none⟩ = some (.string d)) (first | assumption | (simp [go_sem, *]; done)) ((first
      | (go_at_call 25; refine (unhide HK _ (by first | exact unhide HUP _ (unhide HCwa) | exact unhide HUA _ _ (unhide HCwa))).mono ?_; rintro e1 wb ⟨rfl, hb⟩; have HCwb : Hid (Below V5.heap.size V5 wb) := (by first | exact (unhide HCwa).trans (hb.mono (unhide HCwa).size) | exact bel_al (unhide HCwa) hb); (first | (have HZwb := hide ((unhide HZwa).later hb); clear u0 u1 u2 uf0 uf1 uf2; have u0 := (unhide HZwb).c0; have u1 := (unhide HZwb).c1; have u2 := (unhide HZwb).c2; have uf0 := (unhide HZwb).f0; have uf1 := (unhide HZwb).f1; have uf2 := (unhide HZwb).f2) | (have HZwb : Hid (FBox wb wa.heap.size (.bool false) (.string ⟨#[]⟩) (.string ⟨#[]⟩)) := (by first | exact FBox.past33 hb | exact FBox.past33D hb); have u0 := (unhide HZwb).c0; have u1 := (unhide HZwb).c1; have u2 := (unhide HZwb).c2; have uf0 := (unhide HZwb).f0; have uf1 := (unhide HZwb).f1; have uf2 := (unhide HZwb).f2) | skip); clear hb m0 m1 m2 m3 m4 m5 m6 m7 m8 m9 m10 m11 m12 m13 m14 a0 a1; have m0 : wb.cell? ⟨gA, 0, none⟩ = some (.string pn) := ((unhide BA5).later (unhide HCwb)).ub.c 0 _ rfl; have m1 : wb.cell? ⟨gA, 1, none⟩ = some (.string ps) := ((unhide BA5).later (unhide HCwb)).ub.c 1 _ rfl; have m2 : wb.cell? ⟨gA, 2, none⟩ = some (.int .i64 pd0) := ((unhide BA5).later (unhide HCwb)).ub.c 2 _ rfl; have m3 : wb.cell? ⟨gA, 3, none⟩ = some (.int .i64 pd1) := ((unhide BA5).later (unhide HCwb)).ub.c 3 _ rfl; have m4 : wb.cell? ⟨gA, 4, none⟩ = some (.int .i64 pd2) := ((unhide BA5).later (unhide HCwb)).ub.c 4 _ rfl; have m5 : wb.cell? ⟨gA, 5, none⟩ = some (.int .i64 pd3) := ((unhide BA5).later (unhide HCwb)).ub.c 5 _ rfl; have m6 : wb.cell? ⟨gA, 6, none⟩ = some (.int .i64 pd4) := ((unhide BA5).later (unhide HCwb)).ub.c 6 _ rfl; have m7 : wb.cell? ⟨gA, 7, none⟩ = some (.int .i64 pd5) := ((unhide BA5).later (unhide HCwb)).ub.c 7 _ rfl; have m8 : wb.cell? ⟨gA, 8, none⟩ = some (.int .i64 pd6) := ((unhide BA5).later (unhide HCwb)).ub.c 8 _ rfl; have m9 : wb.cell? ⟨gA, 9, none⟩ = some (.int .i64 pd7) := ((unhide BA5).later (unhide HCwb)).ub.c 9 _ rfl; have m10 : wb.cell? ⟨gA, 10, none⟩ = some (.string pf) := ((unhide BA5).later (unhide HCwb)).ub.c 10 _ rfl; have m11 : wb.cell? ⟨gA, 11, none⟩ = some (.string pg) := ((unhide BA5).later (unhide HCwb)).ub.c 11 _ rfl; have m12 : wb.cell? ⟨gA, 12, none⟩ = some (.string po) := ((unhide BA5).later (unhide HCwb)).ub.c 12 _ rfl; have m13 : wb.cell? ⟨gA, 13, none⟩ = some (.string pp) := ((unhide BA5).later (unhide HCwb)).ub.c 13 _ rfl; have m14 : wb.cell? ⟨gA, 14, none⟩ = some (.int .i64 pt) := ((unhide BA5).later (unhide HCwb)).ub.c 14 _ rfl; have a0 := ((unhide BN5).later (unhide HCwb)).c0; have a1 := ((unhide BN5).later (unhide HCwb)).c1; have hvawb := ((unhide BA5).later (unhide HCwb)).lt; have hvbwb := ((unhide BN5).later (unhide HCwb)).lt)
      | (go_at_call 14; refine (unhide HX _ (by first | exact unhide HUP _ (unhide HC0) | exact unhide HUA _ _ (unhide HC0) | exact unhide HUD _)).mono ?_; rintro e1 wa ⟨rfl, hb⟩; have HCwa : Hid (Below V5.heap.size V5 wa) := (by first | exact (unhide HC0).trans (hb.mono (unhide HC0).size) | exact bel_al (unhide HC0) hb | exact bel_alD hb); (first | (have HZwa := hide ((unhide HZ0).later hb); clear u0 u1 u2 uf0 uf1 uf2; have u0 := (unhide HZwa).c0; have u1 := (unhide HZwa).c1; have u2 := (unhide HZwa).c2; have uf0 := (unhide HZwa).f0; have uf1 := (unhide HZwa).f1; have uf2 := (unhide HZwa).f2) | (have HZwa : Hid (FBox wa V5.heap.size (.bool false) (.string ⟨#[]⟩) (.string ⟨#[]⟩)) := (by first | exact FBox.past33 hb | exact FBox.past33D hb); have u0 := (unhide HZwa).c0; have u1 := (unhide HZwa).c1; have u2 := (unhide HZwa).c2; have uf0 := (unhide HZwa).f0; have uf1 := (unhide HZwa).f1; have uf2 := (unhide HZwa).f2) | skip); clear hb m0 m1 m2 m3 m4 m5 m6 m7 m8 m9 m10 m11 m12 m13 m14 a0 a1; have m0 : wa.cell? ⟨gA, 0, none⟩ = some (.string pn) := ((unhide BA5).later (unhide HCwa)).ub.c 0 _ rfl; have m1 : wa.cell? ⟨gA, 1, none⟩ = some (.string ps) := ((unhide BA5).later (unhide HCwa)).ub.c 1 _ rfl; have m2 : wa.cell? ⟨gA, 2, none⟩ = some (.int .i64 pd0) := ((unhide BA5).later (unhide HCwa)).ub.c 2 _ rfl; have m3 : wa.cell? ⟨gA, 3, none⟩ = some (.int .i64 pd1) := ((unhide BA5).later (unhide HCwa)).ub.c 3 _ rfl; have m4 : wa.cell? ⟨gA, 4, none⟩ = some (.int .i64 pd2) := ((unhide BA5).later (unhide HCwa)).ub.c 4 _ rfl; have m5 : wa.cell? ⟨gA, 5, none⟩ = some (.int .i64 pd3) := ((unhide BA5).later (unhide HCwa)).ub.c 5 _ rfl; have m6 : wa.cell? ⟨gA, 6, none⟩ = some (.int .i64 pd4) := ((unhide BA5).later (unhide HCwa)).ub.c 6 _ rfl; have m7 : wa.cell? ⟨gA, 7, none⟩ = some (.int .i64 pd5) := ((unhide BA5).later (unhide HCwa)).ub.c 7 _ rfl; have m8 : wa.cell? ⟨gA, 8, none⟩ = some (.int .i64 pd6) := ((unhide BA5).later (unhide HCwa)).ub.c 8 _ rfl; have m9 : wa.cell? ⟨gA, 9, none⟩ = some (.int .i64 pd7) := ((unhide BA5).later (unhide HCwa)).ub.c 9 _ rfl; have m10 : wa.cell? ⟨gA, 10, none⟩ = some (.string pf) := ((unhide BA5).later (unhide HCwa)).ub.c 10 _ rfl; have m11 : wa.cell? ⟨gA, 11, none⟩ = some (.string pg) := ((unhide BA5).later (unhide HCwa)).ub.c 11 _ rfl; have m12 : wa.cell? ⟨gA, 12, none⟩ = some (.string po) := ((unhide BA5).later (unhide HCwa)).ub.c 12 _ rfl; have m13 : wa.cell? ⟨gA, 13, none⟩ = some (.string pp) := ((unhide BA5).later (unhide HCwa)).ub.c 13 _ rfl; have m14 : wa.cell? ⟨gA, 14, none⟩ = some (.int .i64 pt) := ((unhide BA5).later (unhide HCwa)).ub.c 14 _ rfl; have a0 := ((unhide BN5).later (unhide HCwa)).c0; have a1 := ((unhide BN5).later (unhide HCwa)).c1; have hvawa := ((unhide BA5).later (unhide HCwa)).lt; have hvbwa := ((unhide BN5).later (unhide HCwa)).lt)))
    all_goals
      first
      | (obtain ⟨X, hX⟩ : ∃ X, X = wb.heap.size := ⟨_, rfl⟩
         obtain ⟨U, hU⟩ : ∃ U, U = wb.alloc (.cells #[.bool true, .string kn, .string kd] 33) := ⟨_, rfl⟩
         have HF : Hid (FBox U X (.bool true) (.string kn) (.string kd) ∧ Below V5.heap.size V5 U) := by
           rw [hU, hX]
           exact ⟨⟨by simp [go_sem], by simp [go_sem], by simp [go_sem], by simp [go_sem], by simp [go_sem], by simp [go_sem]⟩, (unhide HCwb).alloc (unhide HCwb).size _⟩
         rw [← hU, ← hX]
         clear hU hX)
      | (obtain ⟨X, hX⟩ : ∃ X, X = wa.heap.size := ⟨_, rfl⟩
         obtain ⟨U, hU⟩ : ∃ U, U = (((wb.setCell { block := wa.heap.size, off := 0 } (.bool true)).setCell { block := wa.heap.size, off := 1 } (.string kn)).setCell { block := wa.heap.size, off := 2 } (.string kd)) := ⟨_, rfl⟩
         have HF : Hid (FBox U X (.bool true) (.string kn) (.string kd) ∧ Below V5.heap.size V5 U) := by
           rw [hU, hX]
           exact ⟨(unhide HZwb).store _ _ _, below_store3 (unhide HCwb) ((unhide HCwa).size) _ _ _⟩
         rw [← hU, ← hX]
         clear hU hX)
      | (obtain ⟨X, hX⟩ : ∃ X, X = V5.heap.size := ⟨_, rfl⟩
         obtain ⟨U, hU⟩ : ∃ U, U = (((wb.setCell { block := V5.heap.size, off := 0 } (.bool true)).setCell { block := V5.heap.size, off := 1 } (.string kn)).setCell { block := V5.heap.size, off := 2 } (.string kd)) := ⟨_, rfl⟩
         have HF : Hid (FBox U X (.bool true) (.string kn) (.string kd) ∧ Below V5.heap.size V5 U) := by
           rw [hU, hX]
           exact ⟨(unhide HZwb).store _ _ _, below_store3 (unhide HCwb) (Nat.le_refl _) _ _ _⟩
         rw [← hU, ← hX]
         clear hU hX)
    all_goals
      clear m0 m1 m2 m3 m4 m5 m6 m7 m8 m9 m10 m11 m12 m13 m14 a0 a1
      go_wp2_with fail
      go_meet
      exact ⟨X, rfl, unhide HF⟩
  case rest =>
    obtain ⟨gK, rfl, HT⟩ := hcut
    generalize wc = V6 at HT ⊢
    have BN6 := hide ((unhide BN5).later (unhide HT).2); have BR6 := hide ((unhide BR5).later (unhide HT).2); have BA6 := hide ((unhide BA5).later (unhide HT).2); have BB6 := hide ((unhide BB5).later (unhide HT).2); have HB6 := hide ((unhide HB5).trans (((unhide HT).2).mono (unhide HB5).size))
    have BK6 := hide (unhide HT).1
    clear HT
    have k0 := (unhide BK6).c0; have k1 := (unhide BK6).c1; have k2 := (unhide BK6).c2
    have r0 := (unhide BR6).c0; have r1 := (unhide BR6).c1; have rf0 := (unhide BR6).f0; have rf1 := (unhide BR6).f1
    go_wp2_with fail
    have hS := (unhide BR6).store (.string ⟨#[]⟩) (.string ⟨#[]⟩)
    have v0 := hS.c0; have v1 := hS.c1
    exact bodyPost_ret (v := .tuple #[.agg #[.string ⟨#[]⟩, .string ⟨#[]⟩], .int .i64 9]) (w := store2 V6 (w.heap.size + 1) (.string ⟨#[]⟩) (.string ⟨#[]⟩)) (by simp [results, Tryz.results7, go_sem, v0, v1]) rfl ⟨rfl, below_store2 (unhide HB6) (by omega) _ _⟩
set_option maxRecDepth 100000 in
set_option maxHeartbeats 8000000 in
theorem refTo_tell (n d s t : ByteArray) (pn ps pf pg po pp : ByteArray) (pd0 pd1 pd2 pd3 pd4 pd5 pd6 pd7 pt : Int) (qn qs qf qg qo qp : ByteArray) (qd0 qd1 qd2 qd3 qd4 qd5 qd6 qd7 qt : Int) (kn kd rn rd : ByteArray) (fX fR : Value) (e : Int) (w : World)
    (hr : ∀ W, Below w.heap.size w W → Calls Tryz.prog 11 #[.agg #[.string n, .string d]] W fun r w' => r = .returned (.bool true) ∧ Below W.heap.size W w')
    (hfa : ∀ W, Below w.heap.size w W → Calls Tryz.prog 24 #[.string s] W fun r w' => r = .returned (.tuple #[.agg #[.string pn, .string ps, .int .i64 pd0, .int .i64 pd1, .int .i64 pd2, .int .i64 pd3, .int .i64 pd4, .int .i64 pd5, .int .i64 pd6, .int .i64 pd7, .string pf, .string pg, .string po, .string pp, .int .i64 pt], .bool true]) ∧ Below W.heap.size W w')
    (hfb : ∀ W, Below w.heap.size w W → Calls Tryz.prog 24 #[.string t] W fun r w' => r = .returned (.tuple #[.agg #[.string qn, .string qs, .int .i64 qd0, .int .i64 qd1, .int .i64 qd2, .int .i64 qd3, .int .i64 qd4, .int .i64 qd5, .int .i64 qd6, .int .i64 qd7, .string qf, .string qg, .string qo, .string qp, .int .i64 qt], .bool true]) ∧ Below W.heap.size W w')
    (hx : ∀ W, Below w.heap.size w W → Calls Tryz.prog 14 #[.agg #[.string n, .string d]] W fun r w' => r = .returned (fX) ∧ Below W.heap.size W w')
    (hk : ∀ W, Below w.heap.size w W → Calls Tryz.prog 25 #[.agg #[.string pn, .string ps, .int .i64 pd0, .int .i64 pd1, .int .i64 pd2, .int .i64 pd3, .int .i64 pd4, .int .i64 pd5, .int .i64 pd6, .int .i64 pd7, .string pf, .string pg, .string po, .string pp, .int .i64 pt], fX] W fun r w' => r = .returned (.agg #[.bool false, .string kn, .string kd]) ∧ Below W.heap.size W w')
    (hi : ∀ W, Below w.heap.size w W → Calls Tryz.prog 26 #[.agg #[.string qn, .string qs, .int .i64 qd0, .int .i64 qd1, .int .i64 qd2, .int .i64 qd3, .int .i64 qd4, .int .i64 qd5, .int .i64 qd6, .int .i64 qd7, .string qf, .string qg, .string qo, .string qp, .int .i64 qt], .agg #[.bool false, .string kn, .string kd]] W fun r w' => r = .returned (fR) ∧ Below W.heap.size W w')
    (ht : ∀ W, Below w.heap.size w W → Calls Tryz.prog 18 #[fR] W fun r w' => r = .returned (.tuple #[.agg #[.string rn, .string rd], .int .i64 e]) ∧ Below W.heap.size W w') :
    Calls Tryz.prog 7 #[.agg #[.string n, .string d], .string s, .string t] w fun r w' => r = .returned (.tuple #[.agg #[.string rn, .string rd], .int .i64 e]) ∧ Below w.heap.size w w' := by
  obtain ⟨V, hV⟩ : ∃ V, V = (w.alloc (.cells #[.string n, .string d] 23)).alloc (.cells #[.string ⟨#[]⟩, .string ⟨#[]⟩] 23) := ⟨_, rfl⟩
  have BN0 : Hid (T2 V w.heap.size (.string n) (.string d)) := by rw [hV]; exact ⟨by simp [go_sem], by simp [go_sem], by simp [go_sem], by simp [go_sem]⟩
  have BR0 : Hid (T2 V (w.heap.size + 1) (.string ⟨#[]⟩) (.string ⟨#[]⟩)) := by rw [hV]; exact ⟨by simp [go_sem], by simp [go_sem], by simp [go_sem], by simp [go_sem]⟩
  have HB0 : Hid (Below w.heap.size w V) := by rw [hV]; exact ((Below.refl _ _).alloc (Nat.le_refl _) _).alloc (by simp) _
  have HV := hide hV
  have HR := hide hr; have HFA := hide hfa; have HFB := hide hfb; have HX := hide hx; have HK := hide hk; have HI := hide hi; have HTL := hide ht
  clear hV hr hfa hfb hx hk hi ht
  go_enter Tryz.func7, Tryz.ntmps7
  go_upto_region 1 with fail
  rw [← unhide HV]
  clear HV
  have a0 := (unhide BN0).c0; have a1 := (unhide BN0).c1
  go_upto_region 3 with (go_at_call 11; go_must (refine (unhide HR _ (unhide HB0)).mono ?_; rintro e V1 ⟨rfl, hb⟩; have BN1 := hide ((unhide BN0).later hb); have BR1 := hide ((unhide BR0).later hb); have HB1 := hide ((unhide HB0).trans ((hb).mono (unhide HB0).size)); clear hb a0 a1))
  go_upto_region 4 with (go_at_call_of 24 s; go_must (refine (unhide HFA _ (unhide HB1)).mono ?_; rintro e V2 ⟨rfl, hb⟩; have BN2 := hide ((unhide BN1).later hb); have BR2 := hide ((unhide BR1).later hb); have HB2 := hide ((unhide HB1).trans ((hb).mono (unhide HB1).size)); clear hb))
  have HX : Hid (OwnU (V2.alloc (.cells #[.string pn, .string ps, .int .i64 pd0, .int .i64 pd1, .int .i64 pd2, .int .i64 pd3, .int .i64 pd4, .int .i64 pd5, .int .i64 pd6, .int .i64 pd7, .string pf, .string pg, .string po, .string pp, .int .i64 pt] 56)) V2.heap.size 56 #[.string pn, .string ps, .int .i64 pd0, .int .i64 pd1, .int .i64 pd2, .int .i64 pd3, .int .i64 pd4, .int .i64 pd5, .int .i64 pd6, .int .i64 pd7, .string pf, .string pg, .string po, .string pp, .int .i64 pt] ∧ Below V2.heap.size V2 (V2.alloc (.cells #[.string pn, .string ps, .int .i64 pd0, .int .i64 pd1, .int .i64 pd2, .int .i64 pd3, .int .i64 pd4, .int .i64 pd5, .int .i64 pd6, .int .i64 pd7, .string pf, .string pg, .string po, .string pp, .int .i64 pt] 56))) := ⟨OwnU.new _ _ _, (Below.refl _ _).alloc (Nat.le_refl _) _⟩
  obtain ⟨gA, hgA⟩ : ∃ gA, gA = V2.heap.size := ⟨_, rfl⟩
  obtain ⟨V3, hW⟩ : ∃ V3, V3 = V2.alloc (.cells #[.string pn, .string ps, .int .i64 pd0, .int .i64 pd1, .int .i64 pd2, .int .i64 pd3, .int .i64 pd4, .int .i64 pd5, .int .i64 pd6, .int .i64 pd7, .string pf, .string pg, .string po, .string pp, .int .i64 pt] 56) := ⟨_, rfl⟩
  rw [← hW] at HX ⊢
  have BN3 := hide ((unhide BN2).later (unhide HX).2); have BR3 := hide ((unhide BR2).later (unhide HX).2); have HB3 := hide ((unhide HB2).trans (((unhide HX).2).mono (unhide HB2).size))
  have BA3 := hide (unhide HX).1
  rw [← hgA] at BA3 ⊢
  clear HX hW hgA BN1 BR1 BN2 BR2 HB1 HB2
  go_upto_region 5 with (go_at_call_of 24 t; go_must (refine (unhide HFB _ (unhide HB3)).mono ?_; rintro e V4 ⟨rfl, hb⟩; have BN4 := hide ((unhide BN3).later hb); have BR4 := hide ((unhide BR3).later hb); have BA4 := hide ((unhide BA3).later hb); have HB4 := hide ((unhide HB3).trans ((hb).mono (unhide HB3).size)); clear hb))
  have HX : Hid (OwnU (V4.alloc (.cells #[.string qn, .string qs, .int .i64 qd0, .int .i64 qd1, .int .i64 qd2, .int .i64 qd3, .int .i64 qd4, .int .i64 qd5, .int .i64 qd6, .int .i64 qd7, .string qf, .string qg, .string qo, .string qp, .int .i64 qt] 56)) V4.heap.size 56 #[.string qn, .string qs, .int .i64 qd0, .int .i64 qd1, .int .i64 qd2, .int .i64 qd3, .int .i64 qd4, .int .i64 qd5, .int .i64 qd6, .int .i64 qd7, .string qf, .string qg, .string qo, .string qp, .int .i64 qt] ∧ Below V4.heap.size V4 (V4.alloc (.cells #[.string qn, .string qs, .int .i64 qd0, .int .i64 qd1, .int .i64 qd2, .int .i64 qd3, .int .i64 qd4, .int .i64 qd5, .int .i64 qd6, .int .i64 qd7, .string qf, .string qg, .string qo, .string qp, .int .i64 qt] 56))) := ⟨OwnU.new _ _ _, (Below.refl _ _).alloc (Nat.le_refl _) _⟩
  obtain ⟨gB, hgB⟩ : ∃ gB, gB = V4.heap.size := ⟨_, rfl⟩
  obtain ⟨V5, hW⟩ : ∃ V5, V5 = V4.alloc (.cells #[.string qn, .string qs, .int .i64 qd0, .int .i64 qd1, .int .i64 qd2, .int .i64 qd3, .int .i64 qd4, .int .i64 qd5, .int .i64 qd6, .int .i64 qd7, .string qf, .string qg, .string qo, .string qp, .int .i64 qt] 56) := ⟨_, rfl⟩
  rw [← hW] at HX ⊢
  have BN5 := hide ((unhide BN4).later (unhide HX).2); have BR5 := hide ((unhide BR4).later (unhide HX).2); have BA5 := hide ((unhide BA4).later (unhide HX).2); have HB5 := hide ((unhide HB4).trans (((unhide HX).2).mono (unhide HB4).size))
  have BB5 := hide (unhide HX).1
  rw [← hgB] at BB5 ⊢
  clear HX hW hgB BN3 BR3 BA3 BN4 BR4 BA4 HB3 HB4
  go_upto_region 7 with fail
  go_cut [12] from 27 (fun s9 wx => ∃ g, s9 = .pointer (some ⟨g, 0, none⟩) ∧ Hid (FBox wx g (.bool false) (.string kn) (.string kd) ∧ Below V5.heap.size V5 wx))
  case first =>
    have m0 : V5.cell? ⟨gA, 0, none⟩ = some (.string pn) := (unhide BA5).ub.c 0 _ rfl; have m1 : V5.cell? ⟨gA, 1, none⟩ = some (.string ps) := (unhide BA5).ub.c 1 _ rfl; have m2 : V5.cell? ⟨gA, 2, none⟩ = some (.int .i64 pd0) := (unhide BA5).ub.c 2 _ rfl; have m3 : V5.cell? ⟨gA, 3, none⟩ = some (.int .i64 pd1) := (unhide BA5).ub.c 3 _ rfl; have m4 : V5.cell? ⟨gA, 4, none⟩ = some (.int .i64 pd2) := (unhide BA5).ub.c 4 _ rfl; have m5 : V5.cell? ⟨gA, 5, none⟩ = some (.int .i64 pd3) := (unhide BA5).ub.c 5 _ rfl; have m6 : V5.cell? ⟨gA, 6, none⟩ = some (.int .i64 pd4) := (unhide BA5).ub.c 6 _ rfl; have m7 : V5.cell? ⟨gA, 7, none⟩ = some (.int .i64 pd5) := (unhide BA5).ub.c 7 _ rfl; have m8 : V5.cell? ⟨gA, 8, none⟩ = some (.int .i64 pd6) := (unhide BA5).ub.c 8 _ rfl; have m9 : V5.cell? ⟨gA, 9, none⟩ = some (.int .i64 pd7) := (unhide BA5).ub.c 9 _ rfl; have m10 : V5.cell? ⟨gA, 10, none⟩ = some (.string pf) := (unhide BA5).ub.c 10 _ rfl; have m11 : V5.cell? ⟨gA, 11, none⟩ = some (.string pg) := (unhide BA5).ub.c 11 _ rfl; have m12 : V5.cell? ⟨gA, 12, none⟩ = some (.string po) := (unhide BA5).ub.c 12 _ rfl; have m13 : V5.cell? ⟨gA, 13, none⟩ = some (.string pp) := (unhide BA5).ub.c 13 _ rfl; have m14 : V5.cell? ⟨gA, 14, none⟩ = some (.int .i64 pt) := (unhide BA5).ub.c 14 _ rfl; have a0 := (unhide BN5).c0; have a1 := (unhide BN5).c1
    have HC0 : Hid (Below V5.heap.size V5 V5.drew) := (Below.refl _ _).drew
    have HUP : Hid (∀ W, Below V5.heap.size V5 W → Below w.heap.size w W) := fun W h => (unhide HB5).trans (h.mono (unhide HB5).size)
    have HUA : Hid (∀ W O, Below V5.heap.size V5 W → Below w.heap.size w (W.alloc O)) := fun W O h => (unhide HB5).trans ((h.alloc h.size O).mono (unhide HB5).size)
    have HUD : Hid (∀ O, Below w.heap.size w (V5.alloc O).drew) := fun O => ((unhide HB5).alloc (unhide HB5).size O).drew
    have hva0 := (unhide BA5).lt; have hvb0 := (unhide BN5).lt
    go_region_held3 (fun w' => w'.cell? ⟨gA, 0, none⟩ = some (.string pn) ∧ w'.cell? ⟨gA, 1, none⟩ = some (.string ps) ∧ w'.cell? ⟨gA, 2, none⟩ = some (.int .i64 pd0) ∧ w'.cell? ⟨gA, 3, none⟩ = some (.int .i64 pd1) ∧ w'.cell? ⟨gA, 4, none⟩ = some (.int .i64 pd2) ∧ w'.cell? ⟨gA, 5, none⟩ = some (.int .i64 pd3) ∧ w'.cell? ⟨gA, 6, none⟩ = some (.int .i64 pd4) ∧ w'.cell? ⟨gA, 7, none⟩ = some (.int .i64 pd5) ∧ w'.cell? ⟨gA, 8, none⟩ = some (.int .i64 pd6) ∧ w'.cell? ⟨gA, 9, none⟩ = some (.int .i64 pd7) ∧ w'.cell? ⟨gA, 10, none⟩ = some (.string pf) ∧ w'.cell? ⟨gA, 11, none⟩ = some (.string pg) ∧ w'.cell? ⟨gA, 12, none⟩ = some (.string po) ∧ w'.cell? ⟨gA, 13, none⟩ = some (.string pp) ∧ w'.cell? ⟨gA, 14, none⟩ = some (.int .i64 pt) ∧ w'.cell? ⟨w.heap.size, 0, none⟩ = some (.string n) ∧ w'.cell? ⟨w.heap.size, 1, none⟩ = some (.string d)) (first | assumption | (simp [go_sem, *]; done)) ((first
      | (go_at_call 25; refine (unhide HK _ (by first | exact unhide HUP _ (unhide HCwa) | exact unhide HUA _ _ (unhide HCwa))).mono ?_; rintro e1 wb ⟨rfl, hb⟩; have HCwb : Hid (Below V5.heap.size V5 wb) := (by first | exact (unhide HCwa).trans (hb.mono (unhide HCwa).size) | exact bel_al (unhide HCwa) hb); (first | (have HZwb := hide ((unhide HZwa).later hb); clear u0 u1 u2 uf0 uf1 uf2; have u0 := (unhide HZwb).c0; have u1 := (unhide HZwb).c1; have u2 := (unhide HZwb).c2; have uf0 := (unhide HZwb).f0; have uf1 := (unhide HZwb).f1; have uf2 := (unhide HZwb).f2) | (have HZwb : Hid (FBox wb wa.heap.size (.bool false) (.string ⟨#[]⟩) (.string ⟨#[]⟩)) := (by first | exact FBox.past33 hb | exact FBox.past33D hb); have u0 := (unhide HZwb).c0; have u1 := (unhide HZwb).c1; have u2 := (unhide HZwb).c2; have uf0 := (unhide HZwb).f0; have uf1 := (unhide HZwb).f1; have uf2 := (unhide HZwb).f2) | skip); clear hb m0 m1 m2 m3 m4 m5 m6 m7 m8 m9 m10 m11 m12 m13 m14 a0 a1; have m0 : wb.cell? ⟨gA, 0, none⟩ = some (.string pn) := ((unhide BA5).later (unhide HCwb)).ub.c 0 _ rfl; have m1 : wb.cell? ⟨gA, 1, none⟩ = some (.string ps) := ((unhide BA5).later (unhide HCwb)).ub.c 1 _ rfl; have m2 : wb.cell? ⟨gA, 2, none⟩ = some (.int .i64 pd0) := ((unhide BA5).later (unhide HCwb)).ub.c 2 _ rfl; have m3 : wb.cell? ⟨gA, 3, none⟩ = some (.int .i64 pd1) := ((unhide BA5).later (unhide HCwb)).ub.c 3 _ rfl; have m4 : wb.cell? ⟨gA, 4, none⟩ = some (.int .i64 pd2) := ((unhide BA5).later (unhide HCwb)).ub.c 4 _ rfl; have m5 : wb.cell? ⟨gA, 5, none⟩ = some (.int .i64 pd3) := ((unhide BA5).later (unhide HCwb)).ub.c 5 _ rfl; have m6 : wb.cell? ⟨gA, 6, none⟩ = some (.int .i64 pd4) := ((unhide BA5).later (unhide HCwb)).ub.c 6 _ rfl; have m7 : wb.cell? ⟨gA, 7, none⟩ = some (.int .i64 pd5) := ((unhide BA5).later (unhide HCwb)).ub.c 7 _ rfl; have m8 : wb.cell? ⟨gA, 8, none⟩ = some (.int .i64 pd6) := ((unhide BA5).later (unhide HCwb)).ub.c 8 _ rfl; have m9 : wb.cell? ⟨gA, 9, none⟩ = some (.int .i64 pd7) := ((unhide BA5).later (unhide HCwb)).ub.c 9 _ rfl; have m10 : wb.cell? ⟨gA, 10, none⟩ = some (.string pf) := ((unhide BA5).later (unhide HCwb)).ub.c 10 _ rfl; have m11 : wb.cell? ⟨gA, 11, none⟩ = some (.string pg) := ((unhide BA5).later (unhide HCwb)).ub.c 11 _ rfl; have m12 : wb.cell? ⟨gA, 12, none⟩ = some (.string po) := ((unhide BA5).later (unhide HCwb)).ub.c 12 _ rfl; have m13 : wb.cell? ⟨gA, 13, none⟩ = some (.string pp) := ((unhide BA5).later (unhide HCwb)).ub.c 13 _ rfl; have m14 : wb.cell? ⟨gA, 14, none⟩ = some (.int .i64 pt) := ((unhide BA5).later (unhide HCwb)).ub.c 14 _ rfl; have a0 := ((unhide BN5).later (unhide HCwb)).c0; have a1 := ((unhide BN5).later (unhide HCwb)).c1; have hvawb := ((unhide BA5).later (unhide HCwb)).lt; have hvbwb := ((unhide BN5).later (unhide HCwb)).lt)
      | (go_at_call 14; refine (unhide HX _ (by first | exact unhide HUP _ (unhide HC0) | exact unhide HUA _ _ (unhide HC0) | exact unhide HUD _)).mono ?_; rintro e1 wa ⟨rfl, hb⟩; have HCwa : Hid (Below V5.heap.size V5 wa) := (by first | exact (unhide HC0).trans (hb.mono (unhide HC0).size) | exact bel_al (unhide HC0) hb | exact bel_alD hb); (first | (have HZwa := hide ((unhide HZ0).later hb); clear u0 u1 u2 uf0 uf1 uf2; have u0 := (unhide HZwa).c0; have u1 := (unhide HZwa).c1; have u2 := (unhide HZwa).c2; have uf0 := (unhide HZwa).f0; have uf1 := (unhide HZwa).f1; have uf2 := (unhide HZwa).f2) | (have HZwa : Hid (FBox wa V5.heap.size (.bool false) (.string ⟨#[]⟩) (.string ⟨#[]⟩)) := (by first | exact FBox.past33 hb | exact FBox.past33D hb); have u0 := (unhide HZwa).c0; have u1 := (unhide HZwa).c1; have u2 := (unhide HZwa).c2; have uf0 := (unhide HZwa).f0; have uf1 := (unhide HZwa).f1; have uf2 := (unhide HZwa).f2) | skip); clear hb m0 m1 m2 m3 m4 m5 m6 m7 m8 m9 m10 m11 m12 m13 m14 a0 a1; have m0 : wa.cell? ⟨gA, 0, none⟩ = some (.string pn) := ((unhide BA5).later (unhide HCwa)).ub.c 0 _ rfl; have m1 : wa.cell? ⟨gA, 1, none⟩ = some (.string ps) := ((unhide BA5).later (unhide HCwa)).ub.c 1 _ rfl; have m2 : wa.cell? ⟨gA, 2, none⟩ = some (.int .i64 pd0) := ((unhide BA5).later (unhide HCwa)).ub.c 2 _ rfl; have m3 : wa.cell? ⟨gA, 3, none⟩ = some (.int .i64 pd1) := ((unhide BA5).later (unhide HCwa)).ub.c 3 _ rfl; have m4 : wa.cell? ⟨gA, 4, none⟩ = some (.int .i64 pd2) := ((unhide BA5).later (unhide HCwa)).ub.c 4 _ rfl; have m5 : wa.cell? ⟨gA, 5, none⟩ = some (.int .i64 pd3) := ((unhide BA5).later (unhide HCwa)).ub.c 5 _ rfl; have m6 : wa.cell? ⟨gA, 6, none⟩ = some (.int .i64 pd4) := ((unhide BA5).later (unhide HCwa)).ub.c 6 _ rfl; have m7 : wa.cell? ⟨gA, 7, none⟩ = some (.int .i64 pd5) := ((unhide BA5).later (unhide HCwa)).ub.c 7 _ rfl; have m8 : wa.cell? ⟨gA, 8, none⟩ = some (.int .i64 pd6) := ((unhide BA5).later (unhide HCwa)).ub.c 8 _ rfl; have m9 : wa.cell? ⟨gA, 9, none⟩ = some (.int .i64 pd7) := ((unhide BA5).later (unhide HCwa)).ub.c 9 _ rfl; have m10 : wa.cell? ⟨gA, 10, none⟩ = some (.string pf) := ((unhide BA5).later (unhide HCwa)).ub.c 10 _ rfl; have m11 : wa.cell? ⟨gA, 11, none⟩ = some (.string pg) := ((unhide BA5).later (unhide HCwa)).ub.c 11 _ rfl; have m12 : wa.cell? ⟨gA, 12, none⟩ = some (.string po) := ((unhide BA5).later (unhide HCwa)).ub.c 12 _ rfl; have m13 : wa.cell? ⟨gA, 13, none⟩ = some (.string pp) := ((unhide BA5).later (unhide HCwa)).ub.c 13 _ rfl; have m14 : wa.cell? ⟨gA, 14, none⟩ = some (.int .i64 pt) := ((unhide BA5).later (unhide HCwa)).ub.c 14 _ rfl; have a0 := ((unhide BN5).later (unhide HCwa)).c0; have a1 := ((unhide BN5).later (unhide HCwa)).c1; have hvawa := ((unhide BA5).later (unhide HCwa)).lt; have hvbwa := ((unhide BN5).later (unhide HCwa)).lt)))
    all_goals
      first
      | (obtain ⟨X, hX⟩ : ∃ X, X = wb.heap.size := ⟨_, rfl⟩
         obtain ⟨U, hU⟩ : ∃ U, U = wb.alloc (.cells #[.bool false, .string kn, .string kd] 33) := ⟨_, rfl⟩
         have HF : Hid (FBox U X (.bool false) (.string kn) (.string kd) ∧ Below V5.heap.size V5 U) := by
           rw [hU, hX]
           exact ⟨⟨by simp [go_sem], by simp [go_sem], by simp [go_sem], by simp [go_sem], by simp [go_sem], by simp [go_sem]⟩, (unhide HCwb).alloc (unhide HCwb).size _⟩
         rw [← hU, ← hX]
         clear hU hX)
      | (obtain ⟨X, hX⟩ : ∃ X, X = wa.heap.size := ⟨_, rfl⟩
         obtain ⟨U, hU⟩ : ∃ U, U = (((wb.setCell { block := wa.heap.size, off := 0 } (.bool false)).setCell { block := wa.heap.size, off := 1 } (.string kn)).setCell { block := wa.heap.size, off := 2 } (.string kd)) := ⟨_, rfl⟩
         have HF : Hid (FBox U X (.bool false) (.string kn) (.string kd) ∧ Below V5.heap.size V5 U) := by
           rw [hU, hX]
           exact ⟨(unhide HZwb).store _ _ _, below_store3 (unhide HCwb) ((unhide HCwa).size) _ _ _⟩
         rw [← hU, ← hX]
         clear hU hX)
      | (obtain ⟨X, hX⟩ : ∃ X, X = V5.heap.size := ⟨_, rfl⟩
         obtain ⟨U, hU⟩ : ∃ U, U = (((wb.setCell { block := V5.heap.size, off := 0 } (.bool false)).setCell { block := V5.heap.size, off := 1 } (.string kn)).setCell { block := V5.heap.size, off := 2 } (.string kd)) := ⟨_, rfl⟩
         have HF : Hid (FBox U X (.bool false) (.string kn) (.string kd) ∧ Below V5.heap.size V5 U) := by
           rw [hU, hX]
           exact ⟨(unhide HZwb).store _ _ _, below_store3 (unhide HCwb) (Nat.le_refl _) _ _ _⟩
         rw [← hU, ← hX]
         clear hU hX)
    all_goals
      clear m0 m1 m2 m3 m4 m5 m6 m7 m8 m9 m10 m11 m12 m13 m14 a0 a1
      go_wp2_with fail
      go_meet
      exact ⟨X, rfl, unhide HF⟩
  case rest =>
    obtain ⟨gK, rfl, HT⟩ := hcut
    generalize wc = V6 at HT ⊢
    have BN6 := hide ((unhide BN5).later (unhide HT).2); have BR6 := hide ((unhide BR5).later (unhide HT).2); have BA6 := hide ((unhide BA5).later (unhide HT).2); have BB6 := hide ((unhide BB5).later (unhide HT).2); have HB6 := hide ((unhide HB5).trans (((unhide HT).2).mono (unhide HB5).size))
    have BK6 := hide (unhide HT).1
    clear HT
    have k0 := (unhide BK6).c0; have k1 := (unhide BK6).c1; have k2 := (unhide BK6).c2
    have m0 : V6.cell? ⟨gB, 0, none⟩ = some (.string qn) := (unhide BB6).ub.c 0 _ rfl; have m1 : V6.cell? ⟨gB, 1, none⟩ = some (.string qs) := (unhide BB6).ub.c 1 _ rfl; have m2 : V6.cell? ⟨gB, 2, none⟩ = some (.int .i64 qd0) := (unhide BB6).ub.c 2 _ rfl; have m3 : V6.cell? ⟨gB, 3, none⟩ = some (.int .i64 qd1) := (unhide BB6).ub.c 3 _ rfl; have m4 : V6.cell? ⟨gB, 4, none⟩ = some (.int .i64 qd2) := (unhide BB6).ub.c 4 _ rfl; have m5 : V6.cell? ⟨gB, 5, none⟩ = some (.int .i64 qd3) := (unhide BB6).ub.c 5 _ rfl; have m6 : V6.cell? ⟨gB, 6, none⟩ = some (.int .i64 qd4) := (unhide BB6).ub.c 6 _ rfl; have m7 : V6.cell? ⟨gB, 7, none⟩ = some (.int .i64 qd5) := (unhide BB6).ub.c 7 _ rfl; have m8 : V6.cell? ⟨gB, 8, none⟩ = some (.int .i64 qd6) := (unhide BB6).ub.c 8 _ rfl; have m9 : V6.cell? ⟨gB, 9, none⟩ = some (.int .i64 qd7) := (unhide BB6).ub.c 9 _ rfl; have m10 : V6.cell? ⟨gB, 10, none⟩ = some (.string qf) := (unhide BB6).ub.c 10 _ rfl; have m11 : V6.cell? ⟨gB, 11, none⟩ = some (.string qg) := (unhide BB6).ub.c 11 _ rfl; have m12 : V6.cell? ⟨gB, 12, none⟩ = some (.string qo) := (unhide BB6).ub.c 12 _ rfl; have m13 : V6.cell? ⟨gB, 13, none⟩ = some (.string qp) := (unhide BB6).ub.c 13 _ rfl; have m14 : V6.cell? ⟨gB, 14, none⟩ = some (.int .i64 qt) := (unhide BB6).ub.c 14 _ rfl
    go_wp2_with (first
      | (go_at_call 26; go_must (refine (unhide HI _ (unhide HB6)).mono ?_; rintro e1 V7 ⟨rfl, hb⟩; have BR7 := hide ((unhide BR6).later hb); have HB7 := hide ((unhide HB6).trans ((hb).mono (unhide HB6).size)); clear hb k0 k1 k2 m0 m1 m2 m3 m4 m5 m6 m7 m8 m9 m10 m11 m12 m13 m14))
      | (go_at_call 18; go_must (refine (unhide HTL _ (unhide HB7)).mono ?_; rintro e1 V8 ⟨rfl, hb⟩; have BR8 := hide ((unhide BR7).later hb); have HB8 := hide ((unhide HB7).trans ((hb).mono (unhide HB7).size)); clear hb; have r0 := (unhide BR8).c0; have r1 := (unhide BR8).c1; have rf0 := (unhide BR8).f0; have rf1 := (unhide BR8).f1)))
    have hS := (unhide BR8).store (.string rn) (.string rd)
    have v0 := hS.c0; have v1 := hS.c1
    exact bodyPost_ret (v := .tuple #[.agg #[.string rn, .string rd], .int .i64 e]) (w := store2 V8 (w.heap.size + 1) (.string rn) (.string rd)) (by simp [results, Tryz.results7, go_sem, v0, v1]) rfl ⟨rfl, below_store2 (unhide HB8) (by omega) _ _⟩
end Go.Proofs.YtimihoonnglniaaGreatDoor
