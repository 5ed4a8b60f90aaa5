/- How fahrenheit is made. -/
import Derived.Test.YtimihoonnglniaaGreatDoorScale
namespace Go.Proofs.YtimihoonnglniaaGreatDoor
open Go.RowKit
set_option maxRecDepth 100000 in
set_option maxHeartbeats 4000000 in
theorem fahrenheit_made : MadeS 91 5 9 229835 900 := by
  intro w
  obtain ⟨V, hV⟩ : ∃ V, V = w.alloc (.cells #[.int .i64 0, .int .i64 0, .int .i64 0, .int .i64 0] 98) := ⟨_, rfl⟩
  have HR : Hid (T4 V w.heap.size (.int .i64 0) (.int .i64 0) (.int .i64 0) (.int .i64 0)) := by rw [hV]; exact ⟨by simp [go_sem], by simp [go_sem], by simp [go_sem], by simp [go_sem], by simp [go_sem], by simp [go_sem], by simp [go_sem], by simp [go_sem]⟩
  have HB : Hid (Below w.heap.size w V) := by rw [hV]; exact (Below.refl _ _).alloc (Nat.le_refl _) _
  have HV := hide hV
  clear hV
  have HM1 := hide rankine_made; have HM2 := hide celsius_made
  unfold MadeS at HM1 HM2
  go_enter Tryz.func91, Tryz.ntmps91
  go_upto_region 1 with fail
  rw [← unhide HV]
  clear HV
  go_upto_region 2 with (first
    | (go_at_call 89; go_must (refine (unhide HM1 _).mono ?_; rintro e w1 ⟨rfl, hb1⟩; have HB1 := hide hb1; clear hb1))
    | (go_at_call 90; go_must (refine (unhide HM2 _).mono ?_; rintro e w2 ⟨rfl, hb2⟩; have HB2 : Hid (Below V.heap.size V w2) := (unhide HB1).trans (hb2.mono (unhide HB1).size); clear hb2)))
  obtain ⟨U, hU⟩ : ∃ U, U = (w2.alloc (.cells #[.int .i64 5, .int .i64 9, .int .i64 0, .int .i64 1] 98)).alloc (.cells #[.int .i64 1, .int .i64 1, .int .i64 27315, .int .i64 100] 98) := ⟨_, rfl⟩
  have HU1 : Hid (T4 U w2.heap.size (.int .i64 5) (.int .i64 9) (.int .i64 0) (.int .i64 1)) := by rw [hU]; exact ⟨by simp [go_sem], by simp [go_sem], by simp [go_sem], by simp [go_sem], by simp [go_sem], by simp [go_sem], by simp [go_sem], by simp [go_sem]⟩
  have HU2 : Hid (T4 U (w2.heap.size + 1) (.int .i64 1) (.int .i64 1) (.int .i64 27315) (.int .i64 100)) := by rw [hU]; exact ⟨by simp [go_sem], by simp [go_sem], by simp [go_sem], by simp [go_sem], by simp [go_sem], by simp [go_sem], by simp [go_sem], by simp [go_sem]⟩
  have HBU : Hid (Below V.heap.size V U) := by rw [hU]; exact ((unhide HB2).alloc (unhide HB2).size _).alloc (by have h := (unhide HB2).size; simp; omega) _
  rw [← hU]
  clear hU
  generalize w2.heap.size = g1 at *
  have HRU := hide ((unhide HR).later (unhide HBU))
  have HBW : Hid (Below w.heap.size w U) := (unhide HB).trans ((unhide HBU).mono (unhide HB).size)
  have a0 := (unhide HU1).c0; have a1 := (unhide HU1).c1; have a2 := (unhide HU1).c2; have a3 := (unhide HU1).c3
  have b0 := (unhide HU2).c0; have b1 := (unhide HU2).c1; have b2 := (unhide HU2).c2; have b3 := (unhide HU2).c3
  go_region_held3 (fun w' => w'.cell? ⟨g1, 0, none⟩ = some (.int .i64 5) ∧ w'.cell? ⟨g1, 1, none⟩ = some (.int .i64 9) ∧ w'.cell? ⟨g1, 2, none⟩ = some (.int .i64 0) ∧ w'.cell? ⟨g1, 3, none⟩ = some (.int .i64 1) ∧ w'.cell? ⟨g1 + 1, 0, none⟩ = some (.int .i64 1) ∧ w'.cell? ⟨g1 + 1, 1, none⟩ = some (.int .i64 1) ∧ w'.cell? ⟨g1 + 1, 2, none⟩ = some (.int .i64 27315) ∧ w'.cell? ⟨g1 + 1, 3, none⟩ = some (.int .i64 100)) (first | assumption | (simp [go_sem, *]; done)) (fail)
  all_goals
    have HSS : Hid (∀ W, Below U.heap.size U W → W.cell? ⟨g1, 0, none⟩ = some (.int .i64 5) ∧ W.cell? ⟨g1, 1, none⟩ = some (.int .i64 9)) := fun W hb => by
      have h1 := (unhide HU1).later hb
      exact ⟨h1.c0, h1.c1⟩
    have HS0 := hide (unhide HSS U.drew.drew ((Below.refl _ _).drew.drew))
    go_upto_region 3 with fail
    refine region_reads 10 (fun W => W.cell? ⟨g1, 0, none⟩ = some (.int .i64 5) ∧ W.cell? ⟨g1, 1, none⟩ = some (.int .i64 9)) (fun _ => True) 11 rfl (by kernel_rfl) ?_
    refine wpR_take (i := 0) (oi := _) (v := .pointer (some ⟨g1, 0, none⟩)) rfl (by kernel_rfl) (by kernel_rfl) (by kernel_rfl) (by kernel_rfl) (fun _ _ _ h => h) (Or.inl ⟨by rfl, ?_⟩) ⟨unhide HS0, trivial⟩ ?_
    · intro W hW
      go_split_ands
      go_simp
    refine wpR_take (i := 1) (oi := _) (v := .agg #[.int .i64 5, .int .i64 9]) rfl (by kernel_rfl) (by kernel_rfl) (by kernel_rfl) (by kernel_rfl) (fun _ _ _ h => h) (Or.inl ⟨by rfl, ?_⟩) ⟨unhide HS0, trivial⟩ ?_
    · intro W hW
      go_split_ands
      go_simp
    refine wpR_take (i := 2) (oi := _) (v := .func (.func 104) #[.agg #[.int .i64 1, .int .i64 1, .int .i64 27315, .int .i64 100]] #[]) rfl (by kernel_rfl) (by kernel_rfl) (by kernel_rfl) (by kernel_rfl) (fun _ _ _ h => h) (Or.inl ⟨by rfl, ?_⟩) ⟨unhide HS0, trivial⟩ ?_
    · intro W hW
      go_split_ands
      go_simp
    refine wpR_take (i := 3) (oi := _) (v := .agg #[.int .i64 0, .int .i64 1]) rfl (by kernel_rfl) (by kernel_rfl) (by kernel_rfl) (by kernel_rfl) (fun _ _ _ h => h) (Or.inl ⟨by rfl, ?_⟩) ⟨unhide HS0, trivial⟩ ?_
    · intro W hW
      go_split_ands
      go_simp
    refine wpR_take (i := 5) (oi := _) (v := .func (.func 104) #[.agg #[.int .i64 5, .int .i64 9, .int .i64 0, .int .i64 1]] #[]) rfl (by kernel_rfl) (by kernel_rfl) (by kernel_rfl) (by kernel_rfl) (fun _ _ _ h => h) (Or.inl ⟨by rfl, ?_⟩) ⟨unhide HS0, trivial⟩ ?_
    · intro W hW
      go_split_ands
      go_simp
    refine wpR_take (i := 6) (oi := _) (v := .agg #[.int .i64 32, .int .i64 1]) rfl (by kernel_rfl) (by kernel_rfl) (by kernel_rfl) (by kernel_rfl) (fun _ _ _ h => h) (Or.inl ⟨by rfl, ?_⟩) ⟨unhide HS0, trivial⟩ ?_
    · intro W hW
      go_split_ands
      go_simp
    refine wpR_op (i := 4) (o := _) (by kernel_rfl) rfl rfl (fun K hK => ?_)
    go_simp
    refine (kelvins_c _).mono ?_
    rintro e wa ⟨rfl, hbwa⟩
    have HBwa : Hid (Below U.heap.size U wa) := ((Below.refl U.heap.size U).drew.drew).trans (hbwa.mono ((Below.refl U.heap.size U).drew.drew).size)
    have HSwa := hide (unhide HSS wa (unhide HBwa))
    clear hbwa
    refine hK _ _ ⟨unhide HSwa, trivial⟩ ?_
    clear hK K
    refine wpR_op (i := 7) (o := _) (by kernel_rfl) rfl rfl (fun K hK => ?_)
    go_simp
    refine (kelvins_r _).mono ?_
    rintro e wc ⟨rfl, hbwc⟩
    have HBwc : Hid (Below U.heap.size U wc) := (unhide HBwa).trans (hbwc.mono (unhide HBwa).size)
    have HSwc := hide (unhide HSS wc (unhide HBwc))
    clear hbwc
    refine hK _ _ ⟨unhide HSwc, trivial⟩ ?_
    clear hK K
    refine wpR_op (i := 8) (o := _) (by kernel_rfl) rfl rfl (fun K hK => ?_)
    go_simp
    refine (less_f _).mono ?_
    rintro e wd ⟨rfl, hbwd⟩
    have HBwd : Hid (Below U.heap.size U wd) := (unhide HBwc).trans (hbwd.mono (unhide HBwc).size)
    have HSwd := hide (unhide HSS wd (unhide HBwd))
    clear hbwd
    have HT := hide ((unhide HRU).later (unhide HBwd))
    have r0 := (unhide HT).c0; have r1 := (unhide HT).c1; have r2 := (unhide HT).c2; have r3 := (unhide HT).c3; have f0 := (unhide HT).f0; have f1 := (unhide HT).f1; have f2 := (unhide HT).f2; have f3 := (unhide HT).f3
    refine hK _ _ ⟨unhide HSwd, trivial⟩ ?_
    clear hK K
    refine wpR_op (i := 9) (o := _) (by kernel_rfl) rfl rfl (fun K hK => ?_)
    go_simp
    refine hK _ _ ⟨unhide HSwd, trivial⟩ ?_
    clear hK K
    refine wpR_late (i := 10) (o := _) (by kernel_rfl) rfl rfl (by kernel_rfl) (fun K hK => ?_)
    go_simp
    refine hK _ _ trivial ?_
    clear hK K
    refine wpR_done (by kernel_rfl) ?_
    go_wp2_with fail
    have hS := (unhide HT).store (.int .i64 5) (.int .i64 9) (.int .i64 229835) (.int .i64 900)
    have v0 := hS.c0; have v1 := hS.c1; have v2 := hS.c2; have v3 := hS.c3
    exact bodyPost_ret (v := .agg #[.int .i64 5, .int .i64 9, .int .i64 229835, .int .i64 900]) (w := store4 wd w.heap.size (.int .i64 5) (.int .i64 9) (.int .i64 229835) (.int .i64 900)) (by simp [results, Tryz.results91, go_sem, v0, v1, v2, v3]) rfl ⟨rfl, below_store4 ((unhide HBW).trans ((unhide HBwd).mono (unhide HBW).size)) (Nat.le_refl _) _ _ _ _⟩
end Go.Proofs.YtimihoonnglniaaGreatDoor
