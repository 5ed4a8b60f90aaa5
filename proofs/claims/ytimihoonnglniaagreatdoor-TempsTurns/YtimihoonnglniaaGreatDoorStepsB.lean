/- TempsSteps, walked. -/
import Derived.Test.YtimihoonnglniaaGreatDoorRefMaps
import Derived.Deep.Cut
import Derived.Test.YtimihoonnglniaaGreatDoorLit
import Derived.Test.YtimihoonnglniaaGreatDoorRefVal
import Derived.Deep.RegionHeld3
import Derived.Deep.Quiet
import Derived.BigQuiet
namespace Go.Proofs.YtimihoonnglniaaGreatDoor
open Go.RowKit
set_option maxRecDepth 100000 in
set_option maxHeartbeats 8000000 in
theorem refTo_form (n d s t : ByteArray)  (w : World)
    (hr : ∀ W, Below w.heap.size w W → Calls Tryz.prog 11 #[.agg #[.string n, .string d]] W fun r w' => r = .returned (.bool false) ∧ Below W.heap.size W w') :
    Calls Tryz.prog 7 #[.agg #[.string n, .string d], .string s, .string t] w fun r w' => r = .returned (.tuple #[.agg #[.string ⟨#[]⟩, .string ⟨#[]⟩], .int .i64 3]) ∧ Below w.heap.size w w' := by
  obtain ⟨V, hV⟩ : ∃ V, V = (w.alloc (.cells #[.string n, .string d] 23)).alloc (.cells #[.string ⟨#[]⟩, .string ⟨#[]⟩] 23) := ⟨_, rfl⟩
  have BN0 : Hid (T2 V w.heap.size (.string n) (.string d)) := by rw [hV]; exact ⟨by simp [go_sem], by simp [go_sem], by simp [go_sem], by simp [go_sem]⟩
  have BR0 : Hid (T2 V (w.heap.size + 1) (.string ⟨#[]⟩) (.string ⟨#[]⟩)) := by rw [hV]; exact ⟨by simp [go_sem], by simp [go_sem], by simp [go_sem], by simp [go_sem]⟩
  have HB0 : Hid (Below w.heap.size w V) := by rw [hV]; exact ((Below.refl _ _).alloc (Nat.le_refl _) _).alloc (by simp) _
  have HV := hide hV
  have HR := hide hr
  clear hV hr
  go_enter Tryz.func7, Tryz.ntmps7
  go_upto_region 1 with fail
  rw [← unhide HV]
  clear HV
  have a0 := (unhide BN0).c0; have a1 := (unhide BN0).c1
  go_upto_region 2 with (go_at_call 11; go_must (refine (unhide HR _ (unhide HB0)).mono ?_; rintro e V1 ⟨rfl, hb⟩; have BN1 := hide ((unhide BN0).later hb); have BR1 := hide ((unhide BR0).later hb); have HB1 := hide ((unhide HB0).trans ((hb).mono (unhide HB0).size)); clear hb a0 a1))
  have r0 := (unhide BR1).c0; have r1 := (unhide BR1).c1; have rf0 := (unhide BR1).f0; have rf1 := (unhide BR1).f1
  go_wp2_with fail
  have hS := (unhide BR1).store (.string ⟨#[]⟩) (.string ⟨#[]⟩)
  have v0 := hS.c0; have v1 := hS.c1
  exact bodyPost_ret (v := .tuple #[.agg #[.string ⟨#[]⟩, .string ⟨#[]⟩], .int .i64 3]) (w := store2 V1 (w.heap.size + 1) (.string ⟨#[]⟩) (.string ⟨#[]⟩)) (by simp [results, Tryz.results7, go_sem, v0, v1]) rfl ⟨rfl, below_store2 (unhide HB1) (by omega) _ _⟩
set_option maxRecDepth 100000 in
set_option maxHeartbeats 8000000 in
theorem refStep_form (n d s t : ByteArray)  (w : World)
    (hr : ∀ W, Below w.heap.size w W → Calls Tryz.prog 11 #[.agg #[.string n, .string d]] W fun r w' => r = .returned (.bool false) ∧ Below W.heap.size W w') :
    Calls Tryz.prog 9 #[.agg #[.string n, .string d], .string s, .string t] w fun r w' => r = .returned (.tuple #[.agg #[.string ⟨#[]⟩, .string ⟨#[]⟩], .int .i64 3]) ∧ Below w.heap.size w w' := by
  obtain ⟨V, hV⟩ : ∃ V, V = (w.alloc (.cells #[.string n, .string d] 23)).alloc (.cells #[.string ⟨#[]⟩, .string ⟨#[]⟩] 23) := ⟨_, rfl⟩
  have BN0 : Hid (T2 V w.heap.size (.string n) (.string d)) := by rw [hV]; exact ⟨by simp [go_sem], by simp [go_sem], by simp [go_sem], by simp [go_sem]⟩
  have BR0 : Hid (T2 V (w.heap.size + 1) (.string ⟨#[]⟩) (.string ⟨#[]⟩)) := by rw [hV]; exact ⟨by simp [go_sem], by simp [go_sem], by simp [go_sem], by simp [go_sem]⟩
  have HB0 : Hid (Below w.heap.size w V) := by rw [hV]; exact ((Below.refl _ _).alloc (Nat.le_refl _) _).alloc (by simp) _
  have HV := hide hV
  have HR := hide hr
  clear hV hr
  go_enter Tryz.func9, Tryz.ntmps9
  go_upto_region 1 with fail
  rw [← unhide HV]
  clear HV
  have a0 := (unhide BN0).c0; have a1 := (unhide BN0).c1
  go_upto_region 2 with (go_at_call 11; go_must (refine (unhide HR _ (unhide HB0)).mono ?_; rintro e V1 ⟨rfl, hb⟩; have BN1 := hide ((unhide BN0).later hb); have BR1 := hide ((unhide BR0).later hb); have HB1 := hide ((unhide HB0).trans ((hb).mono (unhide HB0).size)); clear hb a0 a1))
  have r0 := (unhide BR1).c0; have r1 := (unhide BR1).c1; have rf0 := (unhide BR1).f0; have rf1 := (unhide BR1).f1
  go_wp2_with fail
  have hS := (unhide BR1).store (.string ⟨#[]⟩) (.string ⟨#[]⟩)
  have v0 := hS.c0; have v1 := hS.c1
  exact bodyPost_ret (v := .tuple #[.agg #[.string ⟨#[]⟩, .string ⟨#[]⟩], .int .i64 3]) (w := store2 V1 (w.heap.size + 1) (.string ⟨#[]⟩) (.string ⟨#[]⟩)) (by simp [results, Tryz.results9, go_sem, v0, v1]) rfl ⟨rfl, below_store2 (unhide HB1) (by omega) _ _⟩
set_option maxRecDepth 100000 in
set_option maxHeartbeats 8000000 in
theorem refTo_unit (n d s t : ByteArray) (pn ps pf pg po pp : ByteArray) (pd0 pd1 pd2 pd3 pd4 pd5 pd6 pd7 pt : Int) (qn qs qf qg qo qp : ByteArray) (qd0 qd1 qd2 qd3 qd4 qd5 qd6 qd7 qt : Int) (ok1 ok2 : Bool) (w : World)
    (hr : ∀ W, Below w.heap.size w W → Calls Tryz.prog 11 #[.agg #[.string n, .string d]] W fun r w' => r = .returned (.bool true) ∧ Below W.heap.size W w')
    (hfa : ∀ W, Below w.heap.size w W → Calls Tryz.prog 24 #[.string s] W fun r w' => r = .returned (.tuple #[.agg #[.string pn, .string ps, .int .i64 pd0, .int .i64 pd1, .int .i64 pd2, .int .i64 pd3, .int .i64 pd4, .int .i64 pd5, .int .i64 pd6, .int .i64 pd7, .string pf, .string pg, .string po, .string pp, .int .i64 pt], .bool ok1]) ∧ Below W.heap.size W w')
    (hfb : ∀ W, Below w.heap.size w W → Calls Tryz.prog 24 #[.string t] W fun r w' => r = .returned (.tuple #[.agg #[.string qn, .string qs, .int .i64 qd0, .int .i64 qd1, .int .i64 qd2, .int .i64 qd3, .int .i64 qd4, .int .i64 qd5, .int .i64 qd6, .int .i64 qd7, .string qf, .string qg, .string qo, .string qp, .int .i64 qt], .bool ok2]) ∧ Below W.heap.size W w') (h : (ok1 && ok2) = false) :
    Calls Tryz.prog 7 #[.agg #[.string n, .string d], .string s, .string t] w fun r w' => r = .returned (.tuple #[.agg #[.string ⟨#[]⟩, .string ⟨#[]⟩], .int .i64 200]) ∧ Below w.heap.size w w' := by
  obtain ⟨V, hV⟩ : ∃ V, V = (w.alloc (.cells #[.string n, .string d] 23)).alloc (.cells #[.string ⟨#[]⟩, .string ⟨#[]⟩] 23) := ⟨_, rfl⟩
  have BN0 : Hid (T2 V w.heap.size (.string n) (.string d)) := by rw [hV]; exact ⟨by simp [go_sem], by simp [go_sem], by simp [go_sem], by simp [go_sem]⟩
  have BR0 : Hid (T2 V (w.heap.size + 1) (.string ⟨#[]⟩) (.string ⟨#[]⟩)) := by rw [hV]; exact ⟨by simp [go_sem], by simp [go_sem], by simp [go_sem], by simp [go_sem]⟩
  have HB0 : Hid (Below w.heap.size w V) := by rw [hV]; exact ((Below.refl _ _).alloc (Nat.le_refl _) _).alloc (by simp) _
  have HV := hide hV
  have HR := hide hr; have HFA := hide hfa; have HFB := hide hfb
  clear hV hr hfa hfb
  go_enter Tryz.func7, Tryz.ntmps7
  go_upto_region 1 with fail
  rw [← unhide HV]
  clear HV
  have a0 := (unhide BN0).c0; have a1 := (unhide BN0).c1
  go_upto_region 3 with (go_at_call 11; go_must (refine (unhide HR _ (unhide HB0)).mono ?_; rintro e V1 ⟨rfl, hb⟩; have BN1 := hide ((unhide BN0).later hb); have BR1 := hide ((unhide BR0).later hb); have HB1 := hide ((unhide HB0).trans ((hb).mono (unhide HB0).size)); clear hb a0 a1))
  go_upto_region 4 with (go_at_call_of 24 s; go_must (refine (unhide HFA _ (unhide HB1)).mono ?_; rintro e V2 ⟨rfl, hb⟩; have BN2 := hide ((unhide BN1).later hb); have BR2 := hide ((unhide BR1).later hb); have HB2 := hide ((unhide HB1).trans ((hb).mono (unhide HB1).size)); clear hb))
  have HX : Hid (OwnU (V2.alloc (.cells #[.string pn, .string ps, .int .i64 pd0, .int .i64 pd1, .int .i64 pd2, .int .i64 pd3, .int .i64 pd4, .int .i64 pd5, .int .i64 pd6, .int .i64 pd7, .string pf, .string pg, .string po, .string pp, .int .i64 pt] 56)) V2.heap.size 56 #[.string pn, .string ps, .int .i64 pd0, .int .i64 pd1, .int .i64 pd2, .int .i64 pd3, .int .i64 pd4, .int .i64 pd5, .int .i64 pd6, .int .i64 pd7, .string pf, .string pg, .string po, .string pp, .int .i64 pt] ∧ Below V2.heap.size V2 (V2.alloc (.cells #[.string pn, .string ps, .int .i64 pd0, .int .i64 pd1, .int .i64 pd2, .int .i64 pd3, .int .i64 pd4, .int .i64 pd5, .int .i64 pd6, .int .i64 pd7, .string pf, .string pg, .string po, .string pp, .int .i64 pt] 56))) := ⟨OwnU.new _ _ _, (Below.refl _ _).alloc (Nat.le_refl _) _⟩
  obtain ⟨gA, hgA⟩ : ∃ gA, gA = V2.heap.size := ⟨_, rfl⟩
  obtain ⟨V3, hW⟩ : ∃ V3, V3 = V2.alloc (.cells #[.string pn, .string ps, .int .i64 pd0, .int .i64 pd1, .int .i64 pd2, .int .i64 pd3, .int .i64 pd4, .int .i64 pd5, .int .i64 pd6, .int .i64 pd7, .string pf, .string pg, .string po, .string pp, .int .i64 pt] 56) := ⟨_, rfl⟩
  rw [← hW] at HX ⊢
  have BN3 := hide ((unhide BN2).later (unhide HX).2); have BR3 := hide ((unhide BR2).later (unhide HX).2); have HB3 := hide ((unhide HB2).trans (((unhide HX).2).mono (unhide HB2).size))
  have BA3 := hide (unhide HX).1
  rw [← hgA] at BA3 ⊢
  clear HX hW hgA BN1 BR1 BN2 BR2 HB1 HB2
  go_upto_region 5 with (go_at_call_of 24 t; go_must (refine (unhide HFB _ (unhide HB3)).mono ?_; rintro e V4 ⟨rfl, hb⟩; have BN4 := hide ((unhide BN3).later hb); have BR4 := hide ((unhide BR3).later hb); have BA4 := hide ((unhide BA3).later hb); have HB4 := hide ((unhide HB3).trans ((hb).mono (unhide HB3).size)); clear hb))
  have HX : Hid (OwnU (V4.alloc (.cells #[.string qn, .string qs, .int .i64 qd0, .int .i64 qd1, .int .i64 qd2, .int .i64 qd3, .int .i64 qd4, .int .i64 qd5, .int .i64 qd6, .int .i64 qd7, .string qf, .string qg, .string qo, .string qp, .int .i64 qt] 56)) V4.heap.size 56 #[.string qn, .string qs, .int .i64 qd0, .int .i64 qd1, .int .i64 qd2, .int .i64 qd3, .int .i64 qd4, .int .i64 qd5, .int .i64 qd6, .int .i64 qd7, .string qf, .string qg, .string qo, .string qp, .int .i64 qt] ∧ Below V4.heap.size V4 (V4.alloc (.cells #[.string qn, .string qs, .int .i64 qd0, .int .i64 qd1, .int .i64 qd2, .int .i64 qd3, .int .i64 qd4, .int .i64 qd5, .int .i64 qd6, .int .i64 qd7, .string qf, .string qg, .string qo, .string qp, .int .i64 qt] 56))) := ⟨OwnU.new _ _ _, (Below.refl _ _).alloc (Nat.le_refl _) _⟩
  obtain ⟨gB, hgB⟩ : ∃ gB, gB = V4.heap.size := ⟨_, rfl⟩
  obtain ⟨V5, hW⟩ : ∃ V5, V5 = V4.alloc (.cells #[.string qn, .string qs, .int .i64 qd0, .int .i64 qd1, .int .i64 qd2, .int .i64 qd3, .int .i64 qd4, .int .i64 qd5, .int .i64 qd6, .int .i64 qd7, .string qf, .string qg, .string qo, .string qp, .int .i64 qt] 56) := ⟨_, rfl⟩
  rw [← hW] at HX ⊢
  have BN5 := hide ((unhide BN4).later (unhide HX).2); have BR5 := hide ((unhide BR4).later (unhide HX).2); have BA5 := hide ((unhide BA4).later (unhide HX).2); have HB5 := hide ((unhide HB4).trans (((unhide HX).2).mono (unhide HB4).size))
  have BB5 := hide (unhide HX).1
  rw [← hgB] at BB5 ⊢
  clear HX hW hgB BN3 BR3 BA3 BN4 BR4 BA4 HB3 HB4
  rcases (by cases ok1 <;> cases ok2 <;> simp_all : ok1 = false ∨ (ok1 = true ∧ ok2 = false)) with rfl | ⟨rfl, rfl⟩
  all_goals
    clear h
    have r0 := (unhide BR5).c0; have r1 := (unhide BR5).c1; have rf0 := (unhide BR5).f0; have rf1 := (unhide BR5).f1
    go_wp2_with fail
    have hS := (unhide BR5).store (.string ⟨#[]⟩) (.string ⟨#[]⟩)
    have v0 := hS.c0; have v1 := hS.c1
    exact bodyPost_ret (v := .tuple #[.agg #[.string ⟨#[]⟩, .string ⟨#[]⟩], .int .i64 200]) (w := store2 V5 (w.heap.size + 1) (.string ⟨#[]⟩) (.string ⟨#[]⟩)) (by simp [results, Tryz.results7, go_sem, v0, v1]) rfl ⟨rfl, below_store2 (unhide HB5) (by omega) _ _⟩
set_option maxRecDepth 100000 in
set_option maxHeartbeats 8000000 in
theorem refStep_unit (n d s t : ByteArray) (pn ps pf pg po pp : ByteArray) (pd0 pd1 pd2 pd3 pd4 pd5 pd6 pd7 pt : Int) (qn qs qf qg qo qp : ByteArray) (qd0 qd1 qd2 qd3 qd4 qd5 qd6 qd7 qt : Int) (ok1 ok2 : Bool) (w : World)
    (hr : ∀ W, Below w.heap.size w W → Calls Tryz.prog 11 #[.agg #[.string n, .string d]] W fun r w' => r = .returned (.bool true) ∧ Below W.heap.size W w')
    (hfa : ∀ W, Below w.heap.size w W → Calls Tryz.prog 24 #[.string s] W fun r w' => r = .returned (.tuple #[.agg #[.string pn, .string ps, .int .i64 pd0, .int .i64 pd1, .int .i64 pd2, .int .i64 pd3, .int .i64 pd4, .int .i64 pd5, .int .i64 pd6, .int .i64 pd7, .string pf, .string pg, .string po, .string pp, .int .i64 pt], .bool ok1]) ∧ Below W.heap.size W w')
    (hfb : ∀ W, Below w.heap.size w W → Calls Tryz.prog 24 #[.string t] W fun r w' => r = .returned (.tuple #[.agg #[.string qn, .string qs, .int .i64 qd0, .int .i64 qd1, .int .i64 qd2, .int .i64 qd3, .int .i64 qd4, .int .i64 qd5, .int .i64 qd6, .int .i64 qd7, .string qf, .string qg, .string qo, .string qp, .int .i64 qt], .bool ok2]) ∧ Below W.heap.size W w') (h : (ok1 && ok2) = false) :
    Calls Tryz.prog 9 #[.agg #[.string n, .string d], .string s, .string t] w fun r w' => r = .returned (.tuple #[.agg #[.string ⟨#[]⟩, .string ⟨#[]⟩], .int .i64 200]) ∧ Below w.heap.size w w' := by
  obtain ⟨V, hV⟩ : ∃ V, V = (w.alloc (.cells #[.string n, .string d] 23)).alloc (.cells #[.string ⟨#[]⟩, .string ⟨#[]⟩] 23) := ⟨_, rfl⟩
  have BN0 : Hid (T2 V w.heap.size (.string n) (.string d)) := by rw [hV]; exact ⟨by simp [go_sem], by simp [go_sem], by simp [go_sem], by simp [go_sem]⟩
  have BR0 : Hid (T2 V (w.heap.size + 1) (.string ⟨#[]⟩) (.string ⟨#[]⟩)) := by rw [hV]; exact ⟨by simp [go_sem], by simp [go_sem], by simp [go_sem], by simp [go_sem]⟩
  have HB0 : Hid (Below w.heap.size w V) := by rw [hV]; exact ((Below.refl _ _).alloc (Nat.le_refl _) _).alloc (by simp) _
  have HV := hide hV
  have HR := hide hr; have HFA := hide hfa; have HFB := hide hfb
  clear hV hr hfa hfb
  go_enter Tryz.func9, Tryz.ntmps9
  go_upto_region 1 with fail
  rw [← unhide HV]
  clear HV
  have a0 := (unhide BN0).c0; have a1 := (unhide BN0).c1
  go_upto_region 3 with (go_at_call 11; go_must (refine (unhide HR _ (unhide HB0)).mono ?_; rintro e V1 ⟨rfl, hb⟩; have BN1 := hide ((unhide BN0).later hb); have BR1 := hide ((unhide BR0).later hb); have HB1 := hide ((unhide HB0).trans ((hb).mono (unhide HB0).size)); clear hb a0 a1))
  go_upto_region 4 with (go_at_call_of 24 s; go_must (refine (unhide HFA _ (unhide HB1)).mono ?_; rintro e V2 ⟨rfl, hb⟩; have BN2 := hide ((unhide BN1).later hb); have BR2 := hide ((unhide BR1).later hb); have HB2 := hide ((unhide HB1).trans ((hb).mono (unhide HB1).size)); clear hb))
  have HX : Hid (OwnU (V2.alloc (.cells #[.string pn, .string ps, .int .i64 pd0, .int .i64 pd1, .int .i64 pd2, .int .i64 pd3, .int .i64 pd4, .int .i64 pd5, .int .i64 pd6, .int .i64 pd7, .string pf, .string pg, .string po, .string pp, .int .i64 pt] 56)) V2.heap.size 56 #[.string pn, .string ps, .int .i64 pd0, .int .i64 pd1, .int .i64 pd2, .int .i64 pd3, .int .i64 pd4, .int .i64 pd5, .int .i64 pd6, .int .i64 pd7, .string pf, .string pg, .string po, .string pp, .int .i64 pt] ∧ Below V2.heap.size V2 (V2.alloc (.cells #[.string pn, .string ps, .int .i64 pd0, .int .i64 pd1, .int .i64 pd2, .int .i64 pd3, .int .i64 pd4, .int .i64 pd5, .int .i64 pd6, .int .i64 pd7, .string pf, .string pg, .string po, .string pp, .int .i64 pt] 56))) := ⟨OwnU.new _ _ _, (Below.refl _ _).alloc (Nat.le_refl _) _⟩
  obtain ⟨gA, hgA⟩ : ∃ gA, gA = V2.heap.size := ⟨_, rfl⟩
  obtain ⟨V3, hW⟩ : ∃ V3, V3 = V2.alloc (.cells #[.string pn, .string ps, .int .i64 pd0, .int .i64 pd1, .int .i64 pd2, .int .i64 pd3, .int .i64 pd4, .int .i64 pd5, .int .i64 pd6, .int .i64 pd7, .string pf, .string pg, .string po, .string pp, .int .i64 pt] 56) := ⟨_, rfl⟩
  rw [← hW] at HX ⊢
  have BN3 := hide ((unhide BN2).later (unhide HX).2); have BR3 := hide ((unhide BR2).later (unhide HX).2); have HB3 := hide ((unhide HB2).trans (((unhide HX).2).mono (unhide HB2).size))
  have BA3 := hide (unhide HX).1
  rw [← hgA] at BA3 ⊢
  clear HX hW hgA BN1 BR1 BN2 BR2 HB1 HB2
  go_upto_region 5 with (go_at_call_of 24 t; go_must (refine (unhide HFB _ (unhide HB3)).mono ?_; rintro e V4 ⟨rfl, hb⟩; have BN4 := hide ((unhide BN3).later hb); have BR4 := hide ((unhide BR3).later hb); have BA4 := hide ((unhide BA3).later hb); have HB4 := hide ((unhide HB3).trans ((hb).mono (unhide HB3).size)); clear hb))
  have HX : Hid (OwnU (V4.alloc (.cells #[.string qn, .string qs, .int .i64 qd0, .int .i64 qd1, .int .i64 qd2, .int .i64 qd3, .int .i64 qd4, .int .i64 qd5, .int .i64 qd6, .int .i64 qd7, .string qf, .string qg, .string qo, .string qp, .int .i64 qt] 56)) V4.heap.size 56 #[.string qn, .string qs, .int .i64 qd0, .int .i64 qd1, .int .i64 qd2, .int .i64 qd3, .int .i64 qd4, .int .i64 qd5, .int .i64 qd6, .int .i64 qd7, .string qf, .string qg, .string qo, .string qp, .int .i64 qt] ∧ Below V4.heap.size V4 (V4.alloc (.cells #[.string qn, .string qs, .int .i64 qd0, .int .i64 qd1, .int .i64 qd2, .int .i64 qd3, .int .i64 qd4, .int .i64 qd5, .int .i64 qd6, .int .i64 qd7, .string qf, .string qg, .string qo, .string qp, .int .i64 qt] 56))) := ⟨OwnU.new _ _ _, (Below.refl _ _).alloc (Nat.le_refl _) _⟩
  obtain ⟨gB, hgB⟩ : ∃ gB, gB = V4.heap.size := ⟨_, rfl⟩
  obtain ⟨V5, hW⟩ : ∃ V5, V5 = V4.alloc (.cells #[.string qn, .string qs, .int .i64 qd0, .int .i64 qd1, .int .i64 qd2, .int .i64 qd3, .int .i64 qd4, .int .i64 qd5, .int .i64 qd6, .int .i64 qd7, .string qf, .string qg, .string qo, .string qp, .int .i64 qt] 56) := ⟨_, rfl⟩
  rw [← hW] at HX ⊢
  have BN5 := hide ((unhide BN4).later (unhide HX).2); have BR5 := hide ((unhide BR4).later (unhide HX).2); have BA5 := hide ((unhide BA4).later (unhide HX).2); have HB5 := hide ((unhide HB4).trans (((unhide HX).2).mono (unhide HB4).size))
  have BB5 := hide (unhide HX).1
  rw [← hgB] at BB5 ⊢
  clear HX hW hgB BN3 BR3 BA3 BN4 BR4 BA4 HB3 HB4
  rcases (by cases ok1 <;> cases ok2 <;> simp_all : ok1 = false ∨ (ok1 = true ∧ ok2 = false)) with rfl | ⟨rfl, rfl⟩
  all_goals
    clear h
    have r0 := (unhide BR5).c0; have r1 := (unhide BR5).c1; have rf0 := (unhide BR5).f0; have rf1 := (unhide BR5).f1
    go_wp2_with fail
    have hS := (unhide BR5).store (.string ⟨#[]⟩) (.string ⟨#[]⟩)
    have v0 := hS.c0; have v1 := hS.c1
    exact bodyPost_ret (v := .tuple #[.agg #[.string ⟨#[]⟩, .string ⟨#[]⟩], .int .i64 200]) (w := store2 V5 (w.heap.size + 1) (.string ⟨#[]⟩) (.string ⟨#[]⟩)) (by simp [results, Tryz.results9, go_sem, v0, v1]) rfl ⟨rfl, below_store2 (unhide HB5) (by omega) _ _⟩
end Go.Proofs.YtimihoonnglniaaGreatDoor

namespace Go.Proofs.YtimihoonnglniaaGreatDoor
open Go.RowKit
theorem FBox.past33 {W V : World} {x y z : Value} (h : Below (W.alloc (.cells #[x, y, z] 33)).heap.size (W.alloc (.cells #[x, y, z] 33)) V) : FBox V W.heap.size x y z :=
  (show FBox (W.alloc (.cells #[x, y, z] 33)) W.heap.size x y z from ⟨by simp [go_sem], by simp [go_sem], by simp [go_sem], by simp [go_sem], by simp [go_sem], by simp [go_sem]⟩).later h
theorem FBox.past33D {W V : World} {x y z : Value} (h : Below (W.alloc (.cells #[x, y, z] 33)).drew.heap.size (W.alloc (.cells #[x, y, z] 33)).drew V) : FBox V W.heap.size x y z :=
  ((show FBox (W.alloc (.cells #[x, y, z] 33)) W.heap.size x y z from ⟨by simp [go_sem], by simp [go_sem], by simp [go_sem], by simp [go_sem], by simp [go_sem], by simp [go_sem]⟩).later ((Below.refl _ _).drew)).later h
end Go.Proofs.YtimihoonnglniaaGreatDoor
