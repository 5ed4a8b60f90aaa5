/- The law's fixed calls: water boils. -/
import Derived.Test.YtimihoonnglniaaGreatDoorRefMaps
import Derived.Deep.Cut
import Derived.Test.YtimihoonnglniaaGreatDoorStep
import Derived.Laws.Bits
namespace Go.Proofs.YtimihoonnglniaaGreatDoor
open Go.RowKit
set_option maxRecDepth 100000 in
set_option maxHeartbeats 8000000 in
theorem refStep_tell (n d s t : ByteArray) (pn ps pf pg po pp : ByteArray) (pd0 pd1 pd2 pd3 pd4 pd5 pd6 pd7 pt : Int) (qn qs qf qg qo qp : ByteArray) (qd0 qd1 qd2 qd3 qd4 qd5 qd6 qd7 qt : Int) (rn rd : ByteArray) (fX fF fM fG fO fR : Value) (e : Int) (w : World)
    (hr : ∀ W, Below w.heap.size w W → Calls Tryz.prog 11 #[.agg #[.string n, .string d]] W fun r w' => r = .returned (.bool true) ∧ Below W.heap.size W w')
    (hfa : ∀ W, Below w.heap.size w W → Calls Tryz.prog 24 #[.string s] W fun r w' => r = .returned (.tuple #[.agg #[.string pn, .string ps, .int .i64 pd0, .int .i64 pd1, .int .i64 pd2, .int .i64 pd3, .int .i64 pd4, .int .i64 pd5, .int .i64 pd6, .int .i64 pd7, .string pf, .string pg, .string po, .string pp, .int .i64 pt], .bool true]) ∧ Below W.heap.size W w')
    (hfb : ∀ W, Below w.heap.size w W → Calls Tryz.prog 24 #[.string t] W fun r w' => r = .returned (.tuple #[.agg #[.string qn, .string qs, .int .i64 qd0, .int .i64 qd1, .int .i64 qd2, .int .i64 qd3, .int .i64 qd4, .int .i64 qd5, .int .i64 qd6, .int .i64 qd7, .string qf, .string qg, .string qo, .string qp, .int .i64 qt], .bool true]) ∧ Below W.heap.size W w')
    (hx : ∀ W, Below w.heap.size w W → Calls Tryz.prog 14 #[.agg #[.string n, .string d]] W fun r w' => r = .returned (fX) ∧ Below W.heap.size W w')
    (hf : ∀ W, Below w.heap.size w W → Calls Tryz.prog 14 #[.agg #[.string pf, .string pg]] W fun r w' => r = .returned (fF) ∧ Below W.heap.size W w')
    (hm : ∀ W, Below w.heap.size w W → Calls Tryz.prog 29 #[fX, fF] W fun r w' => r = .returned (fM) ∧ Below W.heap.size W w')
    (hg : ∀ W, Below w.heap.size w W → Calls Tryz.prog 14 #[.agg #[.string qf, .string qg]] W fun r w' => r = .returned (fG) ∧ Below W.heap.size W w')
    (ho : ∀ W, Below w.heap.size w W → Calls Tryz.prog 30 #[fG] W fun r w' => r = .returned (fO) ∧ Below W.heap.size W w')
    (hp : ∀ W, Below w.heap.size w W → Calls Tryz.prog 29 #[fM, fO] W fun r w' => r = .returned (fR) ∧ Below W.heap.size W w')
    (htl : ∀ W, Below w.heap.size w W → Calls Tryz.prog 18 #[fR] W fun r w' => r = .returned (.tuple #[.agg #[.string rn, .string rd], .int .i64 e]) ∧ Below W.heap.size W w') :
    Calls Tryz.prog 9 #[.agg #[.string n, .string d], .string s, .string t] w fun r w' => r = .returned (.tuple #[.agg #[.string rn, .string rd], .int .i64 e]) ∧ Below w.heap.size w w' := by
  obtain ⟨V, hV⟩ : ∃ V, V = (w.alloc (.cells #[.string n, .string d] 23)).alloc (.cells #[.string ⟨#[]⟩, .string ⟨#[]⟩] 23) := ⟨_, rfl⟩
  have BN0 : Hid (T2 V w.heap.size (.string n) (.string d)) := by rw [hV]; exact ⟨by simp [go_sem], by simp [go_sem], by simp [go_sem], by simp [go_sem]⟩
  have BR0 : Hid (T2 V (w.heap.size + 1) (.string ⟨#[]⟩) (.string ⟨#[]⟩)) := by rw [hV]; exact ⟨by simp [go_sem], by simp [go_sem], by simp [go_sem], by simp [go_sem]⟩
  have HB0 : Hid (Below w.heap.size w V) := by rw [hV]; exact ((Below.refl _ _).alloc (Nat.le_refl _) _).alloc (by simp) _
  have HV := hide hV
  have HR := hide hr; have HFA := hide hfa; have HFB := hide hfb; have HX := hide hx; have HF := hide hf; have HM := hide hm; have HG := hide hg; have HO := hide ho; have HP := hide hp; have HTL := hide htl
  clear hV hr hfa hfb hx hf hm hg ho hp htl
  go_enter Tryz.func9, Tryz.ntmps9
  go_upto_region 1 with fail
  rw [← unhide HV]
  clear HV
  have a0 := (unhide BN0).c0; have a1 := (unhide BN0).c1
  go_upto_region 3 with (go_at_call 11; go_must (refine (unhide HR _ (unhide HB0)).mono ?_; rintro e V1 ⟨rfl, hb⟩; have BN1 := hide ((unhide BN0).later hb); have BR1 := hide ((unhide BR0).later hb); have HB1 := hide ((unhide HB0).trans ((hb).mono (unhide HB0).size)); clear hb a0 a1))
  go_upto_region 4 with (go_at_call_of 24 s; go_must (refine (unhide HFA _ (unhide HB1)).mono ?_; rintro e V2 ⟨rfl, hb⟩; have BN2 := hide ((unhide BN1).later hb); have BR2 := hide ((unhide BR1).later hb); have HB2 := hide ((unhide HB1).trans ((hb).mono (unhide HB1).size)); clear hb))
  have HX : Hid (OwnU (V2.alloc (.cells #[.string pn, .string ps, .int .i64 pd0, .int .i64 pd1, .int .i64 pd2, .int .i64 pd3, .int .i64 pd4, .int .i64 pd5, .int .i64 pd6, .int .i64 pd7, .string pf, .string pg, .string po, .string pp, .int .i64 pt] 56)) V2.heap.size 56 #[.string pn, .string ps, .int .i64 pd0, .int .i64 pd1, .int .i64 pd2, .int .i64 pd3, .int .i64 pd4, .int .i64 pd5, .int .i64 pd6, .int .i64 pd7, .string pf, .string pg, .string po, .string pp, .int .i64 pt] ∧ Below V2.heap.size V2 (V2.alloc (.cells #[.string pn, .string ps, .int .i64 pd0, .int .i64 pd1, .int .i64 pd2, .int .i64 pd3, .int .i64 pd4, .int .i64 pd5, .int .i64 pd6, .int .i64 pd7, .string pf, .string pg, .string po, .string pp, .int .i64 pt] 56))) := ⟨OwnU.new _ _ _, (Below.refl _ _).alloc (Nat.le_refl _) _⟩
  obtain ⟨gA, hgA⟩ : ∃ gA, gA = V2.heap.size := ⟨_, rfl⟩
  obtain ⟨V3, hW⟩ : ∃ V3, V3 = V2.alloc (.cells #[.string pn, .string ps, .int .i64 pd0, .int .i64 pd1, .int .i64 pd2, .int .i64 pd3, .int .i64 pd4, .int .i64 pd5, .int .i64 pd6, .int .i64 pd7, .string pf, .string pg, .string po, .string pp, .int .i64 pt] 56) := ⟨_, rfl⟩
  rw [← hW] at HX ⊢
  have BN3 := hide ((unhide BN2).later (unhide HX).2); have BR3 := hide ((unhide BR2).later (unhide HX).2); have HB3 := hide ((unhide HB2).trans (((unhide HX).2).mono (unhide HB2).size))
  have BA3 := hide (unhide HX).1
  rw [← hgA] at BA3 ⊢
  have HGA : Hid (¬ gA = w.heap.size + 1) := by have h1 := (unhide BR2).lt; rw [hgA]; show ¬ _; omega
  clear HX hW hgA BN1 BR1 BN2 BR2 HB1 HB2
  go_upto_region 5 with (go_at_call_of 24 t; go_must (refine (unhide HFB _ (unhide HB3)).mono ?_; rintro e V4 ⟨rfl, hb⟩; have BN4 := hide ((unhide BN3).later hb); have BR4 := hide ((unhide BR3).later hb); have BA4 := hide ((unhide BA3).later hb); have HB4 := hide ((unhide HB3).trans ((hb).mono (unhide HB3).size)); clear hb))
  have HX : Hid (OwnU (V4.alloc (.cells #[.string qn, .string qs, .int .i64 qd0, .int .i64 qd1, .int .i64 qd2, .int .i64 qd3, .int .i64 qd4, .int .i64 qd5, .int .i64 qd6, .int .i64 qd7, .string qf, .string qg, .string qo, .string qp, .int .i64 qt] 56)) V4.heap.size 56 #[.string qn, .string qs, .int .i64 qd0, .int .i64 qd1, .int .i64 qd2, .int .i64 qd3, .int .i64 qd4, .int .i64 qd5, .int .i64 qd6, .int .i64 qd7, .string qf, .string qg, .string qo, .string qp, .int .i64 qt] ∧ Below V4.heap.size V4 (V4.alloc (.cells #[.string qn, .string qs, .int .i64 qd0, .int .i64 qd1, .int .i64 qd2, .int .i64 qd3, .int .i64 qd4, .int .i64 qd5, .int .i64 qd6, .int .i64 qd7, .string qf, .string qg, .string qo, .string qp, .int .i64 qt] 56))) := ⟨OwnU.new _ _ _, (Below.refl _ _).alloc (Nat.le_refl _) _⟩
  obtain ⟨gB, hgB⟩ : ∃ gB, gB = V4.heap.size := ⟨_, rfl⟩
  obtain ⟨V5, hW⟩ : ∃ V5, V5 = V4.alloc (.cells #[.string qn, .string qs, .int .i64 qd0, .int .i64 qd1, .int .i64 qd2, .int .i64 qd3, .int .i64 qd4, .int .i64 qd5, .int .i64 qd6, .int .i64 qd7, .string qf, .string qg, .string qo, .string qp, .int .i64 qt] 56) := ⟨_, rfl⟩
  rw [← hW] at HX ⊢
  have BN5 := hide ((unhide BN4).later (unhide HX).2); have BR5 := hide ((unhide BR4).later (unhide HX).2); have BA5 := hide ((unhide BA4).later (unhide HX).2); have HB5 := hide ((unhide HB4).trans (((unhide HX).2).mono (unhide HB4).size))
  have BB5 := hide (unhide HX).1
  rw [← hgB] at BB5 ⊢
  have HGB : Hid (¬ gB = w.heap.size + 1) := by have h1 := (unhide BR4).lt; rw [hgB]; show ¬ _; omega
  clear HX hW hgB BN3 BR3 BA3 BN4 BR4 BA4 HB3 HB4
  go_upto_region 7 with fail
  have m0 : V5.cell? ⟨w.heap.size, 0, none⟩ = some (.string n) := (unhide BN5).c0; have m1 : V5.cell? ⟨w.heap.size, 1, none⟩ = some (.string d) := (unhide BN5).c1; have m2 : V5.cell? ⟨gA, 10, none⟩ = some (.string pf) := (unhide BA5).ub.c 10 _ rfl; have m3 : V5.cell? ⟨gA, 11, none⟩ = some (.string pg) := (unhide BA5).ub.c 11 _ rfl; have m4 : V5.cell? ⟨gB, 10, none⟩ = some (.string qf) := (unhide BB5).ub.c 10 _ rfl; have m5 : V5.cell? ⟨gB, 11, none⟩ = some (.string qg) := (unhide BB5).ub.c 11 _ rfl
  have HC0 : Hid (Below V5.heap.size V5 V5.drew) := (Below.refl _ _).drew
  have HUP : Hid (∀ W, Below V5.heap.size V5 W → Below w.heap.size w W) := fun W h => (unhide HB5).trans (h.mono (unhide HB5).size)
  have hg1 : ¬ gA = w.heap.size + 1 := unhide HGA; have hg2 : ¬ gB = w.heap.size + 1 := unhide HGB
  go_region_held3 (fun w' => w'.cell? ⟨w.heap.size, 0, none⟩ = some (.string n) ∧ w'.cell? ⟨w.heap.size, 1, none⟩ = some (.string d) ∧ w'.cell? ⟨gA, 10, none⟩ = some (.string pf) ∧ w'.cell? ⟨gA, 11, none⟩ = some (.string pg) ∧ w'.cell? ⟨gB, 10, none⟩ = some (.string qf) ∧ w'.cell? ⟨gB, 11, none⟩ = some (.string qg)) (first | assumption | (simp [go_sem, *]; done)) ((first
    | (go_at_call 18; refine (unhide HTL _ (unhide HUP _ (unhide HCwh))).mono ?_; rintro e1 wk ⟨rfl, hb⟩; have HCwk : Hid (Below V5.heap.size V5 wk) := (unhide HCwh).trans (hb.mono (unhide HCwh).size); clear hb m0 m1 m2 m3 m4 m5; have m0 : wk.cell? ⟨w.heap.size, 0, none⟩ = some (.string n) := ((unhide BN5).later (unhide HCwk)).c0; have m1 : wk.cell? ⟨w.heap.size, 1, none⟩ = some (.string d) := ((unhide BN5).later (unhide HCwk)).c1; have m2 : wk.cell? ⟨gA, 10, none⟩ = some (.string pf) := ((unhide BA5).later (unhide HCwk)).ub.c 10 _ rfl; have m3 : wk.cell? ⟨gA, 11, none⟩ = some (.string pg) := ((unhide BA5).later (unhide HCwk)).ub.c 11 _ rfl; have m4 : wk.cell? ⟨gB, 10, none⟩ = some (.string qf) := ((unhide BB5).later (unhide HCwk)).ub.c 10 _ rfl; have m5 : wk.cell? ⟨gB, 11, none⟩ = some (.string qg) := ((unhide BB5).later (unhide HCwk)).ub.c 11 _ rfl; have BRL := hide ((unhide BR5).later (unhide HCwk)); have r0 := (unhide BRL).c0; have r1 := (unhide BRL).c1; have rf0 := (unhide BRL).f0; have rf1 := (unhide BRL).f1)
    | (go_at_call_of 29 fM; refine (unhide HP _ (unhide HUP _ (unhide HCwg))).mono ?_; rintro e1 wh ⟨rfl, hb⟩; have HCwh : Hid (Below V5.heap.size V5 wh) := (unhide HCwg).trans (hb.mono (unhide HCwg).size); clear hb m0 m1 m2 m3 m4 m5; have m0 : wh.cell? ⟨w.heap.size, 0, none⟩ = some (.string n) := ((unhide BN5).later (unhide HCwh)).c0; have m1 : wh.cell? ⟨w.heap.size, 1, none⟩ = some (.string d) := ((unhide BN5).later (unhide HCwh)).c1; have m2 : wh.cell? ⟨gA, 10, none⟩ = some (.string pf) := ((unhide BA5).later (unhide HCwh)).ub.c 10 _ rfl; have m3 : wh.cell? ⟨gA, 11, none⟩ = some (.string pg) := ((unhide BA5).later (unhide HCwh)).ub.c 11 _ rfl; have m4 : wh.cell? ⟨gB, 10, none⟩ = some (.string qf) := ((unhide BB5).later (unhide HCwh)).ub.c 10 _ rfl; have m5 : wh.cell? ⟨gB, 11, none⟩ = some (.string qg) := ((unhide BB5).later (unhide HCwh)).ub.c 11 _ rfl)
    | (go_at_call 30; refine (unhide HO _ (unhide HUP _ (unhide HCwf))).mono ?_; rintro e1 wg ⟨rfl, hb⟩; have HCwg : Hid (Below V5.heap.size V5 wg) := (unhide HCwf).trans (hb.mono (unhide HCwf).size); clear hb m0 m1 m2 m3 m4 m5; have m0 : wg.cell? ⟨w.heap.size, 0, none⟩ = some (.string n) := ((unhide BN5).later (unhide HCwg)).c0; have m1 : wg.cell? ⟨w.heap.size, 1, none⟩ = some (.string d) := ((unhide BN5).later (unhide HCwg)).c1; have m2 : wg.cell? ⟨gA, 10, none⟩ = some (.string pf) := ((unhide BA5).later (unhide HCwg)).ub.c 10 _ rfl; have m3 : wg.cell? ⟨gA, 11, none⟩ = some (.string pg) := ((unhide BA5).later (unhide HCwg)).ub.c 11 _ rfl; have m4 : wg.cell? ⟨gB, 10, none⟩ = some (.string qf) := ((unhide BB5).later (unhide HCwg)).ub.c 10 _ rfl; have m5 : wg.cell? ⟨gB, 11, none⟩ = some (.string qg) := ((unhide BB5).later (unhide HCwg)).ub.c 11 _ rfl)
    | (go_at_call_of 14 qf; refine (unhide HG _ (unhide HUP _ (unhide HCwd))).mono ?_; rintro e1 wf ⟨rfl, hb⟩; have HCwf : Hid (Below V5.heap.size V5 wf) := (unhide HCwd).trans (hb.mono (unhide HCwd).size); clear hb m0 m1 m2 m3 m4 m5; have m0 : wf.cell? ⟨w.heap.size, 0, none⟩ = some (.string n) := ((unhide BN5).later (unhide HCwf)).c0; have m1 : wf.cell? ⟨w.heap.size, 1, none⟩ = some (.string d) := ((unhide BN5).later (unhide HCwf)).c1; have m2 : wf.cell? ⟨gA, 10, none⟩ = some (.string pf) := ((unhide BA5).later (unhide HCwf)).ub.c 10 _ rfl; have m3 : wf.cell? ⟨gA, 11, none⟩ = some (.string pg) := ((unhide BA5).later (unhide HCwf)).ub.c 11 _ rfl; have m4 : wf.cell? ⟨gB, 10, none⟩ = some (.string qf) := ((unhide BB5).later (unhide HCwf)).ub.c 10 _ rfl; have m5 : wf.cell? ⟨gB, 11, none⟩ = some (.string qg) := ((unhide BB5).later (unhide HCwf)).ub.c 11 _ rfl)
    | (go_at_call_of 29 fX; refine (unhide HM _ (unhide HUP _ (unhide HCwb))).mono ?_; rintro e1 wd ⟨rfl, hb⟩; have HCwd : Hid (Below V5.heap.size V5 wd) := (unhide HCwb).trans (hb.mono (unhide HCwb).size); clear hb m0 m1 m2 m3 m4 m5; have m0 : wd.cell? ⟨w.heap.size, 0, none⟩ = some (.string n) := ((unhide BN5).later (unhide HCwd)).c0; have m1 : wd.cell? ⟨w.heap.size, 1, none⟩ = some (.string d) := ((unhide BN5).later (unhide HCwd)).c1; have m2 : wd.cell? ⟨gA, 10, none⟩ = some (.string pf) := ((unhide BA5).later (unhide HCwd)).ub.c 10 _ rfl; have m3 : wd.cell? ⟨gA, 11, none⟩ = some (.string pg) := ((unhide BA5).later (unhide HCwd)).ub.c 11 _ rfl; have m4 : wd.cell? ⟨gB, 10, none⟩ = some (.string qf) := ((unhide BB5).later (unhide HCwd)).ub.c 10 _ rfl; have m5 : wd.cell? ⟨gB, 11, none⟩ = some (.string qg) := ((unhide BB5).later (unhide HCwd)).ub.c 11 _ rfl)
    | (go_at_call_of 14 pf; refine (unhide HF _ (unhide HUP _ (unhide HCwa))).mono ?_; rintro e1 wb ⟨rfl, hb⟩; have HCwb : Hid (Below V5.heap.size V5 wb) := (unhide HCwa).trans (hb.mono (unhide HCwa).size); clear hb m0 m1 m2 m3 m4 m5; have m0 : wb.cell? ⟨w.heap.size, 0, none⟩ = some (.string n) := ((unhide BN5).later (unhide HCwb)).c0; have m1 : wb.cell? ⟨w.heap.size, 1, none⟩ = some (.string d) := ((unhide BN5).later (unhide HCwb)).c1; have m2 : wb.cell? ⟨gA, 10, none⟩ = some (.string pf) := ((unhide BA5).later (unhide HCwb)).ub.c 10 _ rfl; have m3 : wb.cell? ⟨gA, 11, none⟩ = some (.string pg) := ((unhide BA5).later (unhide HCwb)).ub.c 11 _ rfl; have m4 : wb.cell? ⟨gB, 10, none⟩ = some (.string qf) := ((unhide BB5).later (unhide HCwb)).ub.c 10 _ rfl; have m5 : wb.cell? ⟨gB, 11, none⟩ = some (.string qg) := ((unhide BB5).later (unhide HCwb)).ub.c 11 _ rfl)
    | (go_at_call_of 14 n; refine (unhide HX _ (unhide HUP _ (unhide HC0))).mono ?_; rintro e1 wa ⟨rfl, hb⟩; have HCwa : Hid (Below V5.heap.size V5 wa) := (unhide HC0).trans (hb.mono (unhide HC0).size); clear hb m0 m1 m2 m3 m4 m5; have m0 : wa.cell? ⟨w.heap.size, 0, none⟩ = some (.string n) := ((unhide BN5).later (unhide HCwa)).c0; have m1 : wa.cell? ⟨w.heap.size, 1, none⟩ = some (.string d) := ((unhide BN5).later (unhide HCwa)).c1; have m2 : wa.cell? ⟨gA, 10, none⟩ = some (.string pf) := ((unhide BA5).later (unhide HCwa)).ub.c 10 _ rfl; have m3 : wa.cell? ⟨gA, 11, none⟩ = some (.string pg) := ((unhide BA5).later (unhide HCwa)).ub.c 11 _ rfl; have m4 : wa.cell? ⟨gB, 10, none⟩ = some (.string qf) := ((unhide BB5).later (unhide HCwa)).ub.c 10 _ rfl; have m5 : wa.cell? ⟨gB, 11, none⟩ = some (.string qg) := ((unhide BB5).later (unhide HCwa)).ub.c 11 _ rfl)))
  all_goals
    go_wp2_with fail
    have hS := (unhide BRL).store (.string rn) (.string rd)
    have v0 := hS.c0; have v1 := hS.c1
    exact bodyPost_ret (v := .tuple #[.agg #[.string rn, .string rd], .int .i64 e]) (w := store2 wk (w.heap.size + 1) (.string rn) (.string rd)) (by simp [results, Tryz.results9, go_sem, v0, v1]) rfl ⟨rfl, below_store2 (unhide HUP _ (unhide HCwk)) (by omega) _ _⟩
end Go.Proofs.YtimihoonnglniaaGreatDoor

namespace Go.Proofs.YtimihoonnglniaaGreatDoor
open Go.RowKit
set_option maxRecDepth 100000 in
set_option maxHeartbeats 2000000 in
theorem rat31 (a b : ByteArray) (w : World) : Calls Tryz.prog 31 #[.string a, .string b] w fun r w' => r = .returned (.agg #[.string a, .string b]) ∧ Below w.heap.size w w' := by
  go_enter Tryz.func31, Tryz.ntmps31
  go_wp2
  exact bodyPost_ret (v := .agg #[.string a, .string b]) (by simp [results, Tryz.results31, go_sem]) rfl ⟨rfl, (Below.refl _ _).alloc (Nat.le_refl _) _⟩
end Go.Proofs.YtimihoonnglniaaGreatDoor

namespace Go.Proofs.YtimihoonnglniaaGreatDoor
open Go.RowKit
theorem isR_lit (s : ByteArray) (N : Nat) (hN : N < 9223372036854775808) (h : Cub.rightB s.data.toList = true) (hv : Cub.dval s.data.toList = N) : IsR s ⟨#[49]⟩ (Cub.valQ false N 1) := by
  have e := (lit_tb s N h hv).1
  have := isR_whole N hN
  rw [show sT false N = s from by unfold sT; rw [if_neg (by decide)]; exact e.symm] at this
  exact this
theorem boils_q : ((Cub.valQ false 100 1) * fq 1 + oq 1 + -oq 2) * (fq 2)⁻¹ = Cub.valQ false 212 1 := by decide +kernel
theorem boils_k : ¬ (Cub.valQ false 100 1) * fq 1 + oq 1 < 0 := by decide +kernel
theorem boils (w : World) (htab : Tab w) : Calls Tryz.prog 6 #[.agg #[.string ⟨#[49, 48, 48]⟩, .string ⟨#[49]⟩], .string ⟨#[99, 101, 108, 115, 105, 117, 115]⟩, .string ⟨#[102, 97, 104, 114, 101, 110, 104, 101, 105, 116]⟩] w fun r w' => r = .returned (.tuple #[.agg #[.string ⟨#[50, 49, 50]⟩, .string ⟨#[49]⟩], .int .i64 0]) ∧ Below w.heap.size w w' := by
  have hr := isR_lit ⟨#[50, 49, 50]⟩ 212 (by decide) (by decide) (by decide)
  have h := to_tell ⟨#[49, 48, 48]⟩ ⟨#[49]⟩ ⟨#[99, 101, 108, 115, 105, 117, 115]⟩ ⟨#[102, 97, 104, 114, 101, 110, 104, 101, 105, 116]⟩ (Cub.valQ false 100 1) 1 2 w (isR_lit ⟨#[49, 48, 48]⟩ 100 (by decide) (by decide) (by decide))
    (Or.inl ⟨1, by decide, rfl, by decide +kernel, fun i hi => by rcases (by omega : i = 0) with rfl; decide +kernel⟩)
    (Or.inl ⟨2, by decide, rfl, by decide +kernel, fun i hi => by rcases (by omega : i = 0 ∨ i = 1) with rfl | rfl <;> decide +kernel⟩) boils_k htab
  rw [boils_q, ← hr.2.1, ← hr.2.2, show errT (Cub.valQ false 212 1) = 0 from by unfold errT; rw [if_pos hr.1]] at h
  exact h
set_option maxRecDepth 100000 in
set_option maxHeartbeats 4000000 in
theorem awake_any (w : World) (htab : Tab w) : Calls Tryz.prog 10 #[] w fun r w' => r = .returned (.bool true) ∧ Below w.heap.size w w' := by
  have HTO := hide (fun W (hb : Below w.heap.size w W) => boils W (htab.later hb))
  clear htab
  go_enter Tryz.func10, Tryz.ntmps10
  go_upto_region 2 with (first
    | (go_at_call 31; go_must (refine (rat31 _ _ _).mono ?_; rintro e w1 ⟨rfl, hb1⟩; have HB1 := hide hb1; clear hb1))
    | (go_at_call 6; go_must (refine (unhide HTO _ (unhide HB1)).mono ?_; rintro e w2 ⟨rfl, hb2⟩; have HB2 := hide ((unhide HB1).trans (hb2.mono (unhide HB1).size)); clear hb2)))
  obtain ⟨V2, hV2⟩ : ∃ V2, V2 = w2.alloc (.cells #[.string ⟨#[50, 49, 50]⟩, .string ⟨#[49]⟩] 23) := ⟨_, rfl⟩
  have hb2 : Below w2.heap.size w2 V2 := by rw [hV2]; exact (Below.refl _ _).alloc (Nat.le_refl _) _
  have HB3 := hide ((unhide HB2).trans (hb2.mono (unhide HB2).size))
  have HX : Hid (T2 V2 w2.heap.size (.string ⟨#[50, 49, 50]⟩) (.string ⟨#[49]⟩)) := by rw [hV2]; exact ⟨by simp [go_sem], by simp [go_sem], by simp [go_sem], by simp [go_sem]⟩
  rw [← hV2]
  clear hV2 hb2 HB2
  generalize w2.heap.size = g1 at *
  have c0 : ∀ z : Later V2, z.world.cell? ⟨g1, 0, none⟩ = some (.string ⟨#[50, 49, 50]⟩) := fun z => ((unhide HX).later z.below).c0
  have c1 : ∀ z : Later V2, z.world.cell? ⟨g1, 1, none⟩ = some (.string ⟨#[49]⟩) := fun z => ((unhide HX).later z.below).c1
  refine quiet_later (by kernel_rfl) (by kernel_rfl) ?_
  repeat (go_big_quiet_step ((go_at_call 31; rename_i xx; refine (rat31 _ _ xx.world).mono ?_; rintro e w9 ⟨rfl, hb9⟩; have hz := xx.below.trans (hb9.mono xx.below.size); first | exact ⟨rfl, ⟨w9, hz⟩, rfl⟩ | exact ⟨rfl, hz⟩ | exact ⟨rfl, w9, hz, rfl⟩)))
  refine wpQuiet_nil ?_
  intro _ hw'
  obtain ⟨xz, hw''⟩ := hw'
  subst hw''
  have HE := hide ((unhide HB3).trans (xz.below.mono (unhide HB3).size))
  go_wp2_with fail
  go_ret
  exact ⟨rfl, unhide HE⟩
end Go.Proofs.YtimihoonnglniaaGreatDoor
