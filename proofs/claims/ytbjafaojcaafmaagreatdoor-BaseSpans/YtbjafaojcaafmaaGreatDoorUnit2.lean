/- The base units told, the others. -/
import Derived.Test.YtbjafaojcaafmaaGreatDoorUnit
import Derived.Test.YtbjafaojcaafmaaGreatDoorMade2
namespace Go.Proofs.YtbjafaojcaafmaaGreatDoor
open Go.RowKit
set_option maxRecDepth 100000 in
set_option maxHeartbeats 4000000 in
theorem told_4 (w : World) (htab : Tab w) : Calls Tryz.prog 11 #[.agg #[.string ⟨#[109, 101, 116, 114, 101]⟩, .string ⟨#[109]⟩, .int .i64 1, .func (.func 17) #[] #[]]] w fun r w' => r = .returned (.agg #[.string ⟨#[109, 101, 116, 114, 101]⟩, .string ⟨#[109]⟩, .int .i64 1, .int .i64 0, .int .i64 0, .int .i64 0, .int .i64 0, .int .i64 0, .int .i64 0, .int .i64 0, .string ⟨#[49]⟩, .string ⟨#[49]⟩, .string ⟨#[48]⟩, .string ⟨#[49]⟩, .int .i64 1]) ∧ Below w.heap.size w w' := by
  obtain ⟨V, hV⟩ : ∃ V, V = (w.alloc (.cells #[.string ⟨#[109, 101, 116, 114, 101]⟩, .string ⟨#[109]⟩, .int .i64 1, .func (.func 17) #[] #[]] 38)).alloc (.cells #[.string ⟨#[]⟩, .string ⟨#[]⟩, .int .i64 0, .int .i64 0, .int .i64 0, .int .i64 0, .int .i64 0, .int .i64 0, .int .i64 0, .int .i64 0, .string ⟨#[]⟩, .string ⟨#[]⟩, .string ⟨#[]⟩, .string ⟨#[]⟩, .int .i64 0] 30) := ⟨_, rfl⟩
  have HA : Hid (OwnU V w.heap.size 38 #[.string ⟨#[109, 101, 116, 114, 101]⟩, .string ⟨#[109]⟩, .int .i64 1, .func (.func 17) #[] #[]]) := by rw [hV]; exact (OwnU.new _ _ _).alloc _
  have HR : Hid (OwnU V (w.heap.size + 1) 30 #[.string ⟨#[]⟩, .string ⟨#[]⟩, .int .i64 0, .int .i64 0, .int .i64 0, .int .i64 0, .int .i64 0, .int .i64 0, .int .i64 0, .int .i64 0, .string ⟨#[]⟩, .string ⟨#[]⟩, .string ⟨#[]⟩, .string ⟨#[]⟩, .int .i64 0]) := by rw [hV]; have h := OwnU.new (w.alloc (.cells #[.string ⟨#[109, 101, 116, 114, 101]⟩, .string ⟨#[109]⟩, .int .i64 1, .func (.func 17) #[] #[]] 38)) #[.string ⟨#[]⟩, .string ⟨#[]⟩, .int .i64 0, .int .i64 0, .int .i64 0, .int .i64 0, .int .i64 0, .int .i64 0, .int .i64 0, .int .i64 0, .string ⟨#[]⟩, .string ⟨#[]⟩, .string ⟨#[]⟩, .string ⟨#[]⟩, .int .i64 0] 30; rw [Dm.size_alloc] at h; exact h
  have HB : Hid (Below w.heap.size w V) := by rw [hV]; exact ((Below.refl _ _).alloc (Nat.le_refl _) _).alloc (by simp) _
  have HTA : Hid (∀ W, Below w.heap.size w W → Tab W) := fun W h => htab.later h
  have HV := hide hV
  clear hV htab
  go_enter Tryz.func11, Tryz.ntmps11
  go_upto_region 1 with fail
  rw [← unhide HV]
  clear HV
  have c3 : V.cell? ⟨w.heap.size, 3, none⟩ = some (.func (.func 17) #[] #[]) := (unhide HA).ub.c 3 _ rfl
  go_upto_region 2 with (go_at_call 17; go_must (refine (metre_made _).mono ?_; rintro e W ⟨rfl, hb⟩; have HA1 := hide ((unhide HA).later hb); have HR1 := hide ((unhide HR).later hb); have HB1 := hide ((unhide HB).trans (hb.mono (unhide HB).size)); clear hb c3 HA HR HB))
  have HX : Hid (OwnU (W.alloc (.cells #[.int .i64 1, .int .i64 0, .int .i64 0, .int .i64 0, .int .i64 0, .int .i64 0, .int .i64 0, .int .i64 0, .int .i64 1, .int .i64 1] 57)) W.heap.size 57 #[.int .i64 1, .int .i64 0, .int .i64 0, .int .i64 0, .int .i64 0, .int .i64 0, .int .i64 0, .int .i64 0, .int .i64 1, .int .i64 1]) := OwnU.new _ _ _
  have hal : Below W.heap.size W (W.alloc (.cells #[.int .i64 1, .int .i64 0, .int .i64 0, .int .i64 0, .int .i64 0, .int .i64 0, .int .i64 0, .int .i64 0, .int .i64 1, .int .i64 1] 57)) := (Below.refl _ _).alloc (Nat.le_refl _) _
  have HA2 := hide ((unhide HA1).later (hal.trans (((Below.refl _ _).drew).mono hal.size))); have HR2 := hide ((unhide HR1).later (hal.trans (((Below.refl _ _).drew).mono hal.size))); have HB2 := hide ((unhide HB1).trans (Below.mono (hal.trans (((Below.refl _ _).drew).mono hal.size)) (unhide HB1).size)); have HX2 := hide ((unhide HX).later (Below.refl _ _).drew)
  obtain ⟨g3, hg3⟩ : ∃ g3, g3 = W.heap.size := ⟨_, rfl⟩
  rw [← hg3] at HX2 ⊢
  clear hal HX HA1 HR1 HB1 hg3
  have HSS : Hid (∀ W', OwnU W' w.heap.size 38 #[.string ⟨#[109, 101, 116, 114, 101]⟩, .string ⟨#[109]⟩, .int .i64 1, .func (.func 17) #[] #[]] → OwnU W' g3 57 #[.int .i64 1, .int .i64 0, .int .i64 0, .int .i64 0, .int .i64 0, .int .i64 0, .int .i64 0, .int .i64 0, .int .i64 1, .int .i64 1] → W'.cell? ⟨w.heap.size, 0, none⟩ = some (.string ⟨#[109, 101, 116, 114, 101]⟩) ∧ W'.cell? ⟨w.heap.size, 1, none⟩ = some (.string ⟨#[109]⟩) ∧ W'.cell? ⟨w.heap.size, 2, none⟩ = some (.int .i64 1) ∧ W'.cell? ⟨g3, 0, none⟩ = some (.int .i64 1) ∧ W'.cell? ⟨g3, 1, none⟩ = some (.int .i64 0) ∧ W'.cell? ⟨g3, 2, none⟩ = some (.int .i64 0) ∧ W'.cell? ⟨g3, 3, none⟩ = some (.int .i64 0) ∧ W'.cell? ⟨g3, 4, none⟩ = some (.int .i64 0) ∧ W'.cell? ⟨g3, 5, none⟩ = some (.int .i64 0) ∧ W'.cell? ⟨g3, 6, none⟩ = some (.int .i64 0) ∧ W'.cell? ⟨g3, 7, none⟩ = some (.int .i64 0) ∧ W'.cell? ⟨g3, 8, none⟩ = some (.int .i64 1) ∧ W'.cell? ⟨g3, 9, none⟩ = some (.int .i64 1)) := fun W' h h' => ⟨h.ub.c 0 _ rfl, h.ub.c 1 _ rfl, h.ub.c 2 _ rfl, h'.ub.c 0 _ rfl, h'.ub.c 1 _ rfl, h'.ub.c 2 _ rfl, h'.ub.c 3 _ rfl, h'.ub.c 4 _ rfl, h'.ub.c 5 _ rfl, h'.ub.c 6 _ rfl, h'.ub.c 7 _ rfl, h'.ub.c 8 _ rfl, h'.ub.c 9 _ rfl⟩
  have HS0 := hide (unhide HSS _ (unhide HA2) (unhide HX2))
  refine region_reads 12 (fun W' => W'.cell? ⟨w.heap.size, 0, none⟩ = some (.string ⟨#[109, 101, 116, 114, 101]⟩) ∧ W'.cell? ⟨w.heap.size, 1, none⟩ = some (.string ⟨#[109]⟩) ∧ W'.cell? ⟨w.heap.size, 2, none⟩ = some (.int .i64 1) ∧ W'.cell? ⟨g3, 0, none⟩ = some (.int .i64 1) ∧ W'.cell? ⟨g3, 1, none⟩ = some (.int .i64 0) ∧ W'.cell? ⟨g3, 2, none⟩ = some (.int .i64 0) ∧ W'.cell? ⟨g3, 3, none⟩ = some (.int .i64 0) ∧ W'.cell? ⟨g3, 4, none⟩ = some (.int .i64 0) ∧ W'.cell? ⟨g3, 5, none⟩ = some (.int .i64 0) ∧ W'.cell? ⟨g3, 6, none⟩ = some (.int .i64 0) ∧ W'.cell? ⟨g3, 7, none⟩ = some (.int .i64 0) ∧ W'.cell? ⟨g3, 8, none⟩ = some (.int .i64 1) ∧ W'.cell? ⟨g3, 9, none⟩ = some (.int .i64 1)) (fun _ => True) 13 rfl (by kernel_rfl) ?_
  refine wpR_take (i := 0) (oi := _) (v := .pointer (some ⟨w.heap.size, 0, none⟩)) rfl (by kernel_rfl) (by kernel_rfl) (by kernel_rfl) (by kernel_rfl) (fun _ _ _ h => h) (Or.inl ⟨by rfl, ?_⟩) ⟨unhide HS0, trivial⟩ ?_
  · intro W' hW
    go_split_ands
    go_simp
  refine wpR_take (i := 1) (oi := _) (v := .string ⟨#[109, 101, 116, 114, 101]⟩) rfl (by kernel_rfl) (by kernel_rfl) (by kernel_rfl) (by kernel_rfl) (fun _ _ _ h => h) (Or.inl ⟨by rfl, ?_⟩) ⟨unhide HS0, trivial⟩ ?_
  · intro W' hW
    go_split_ands
    go_simp
  refine wpR_take (i := 2) (oi := _) (v := .pointer (some ⟨w.heap.size, 1, none⟩)) rfl (by kernel_rfl) (by kernel_rfl) (by kernel_rfl) (by kernel_rfl) (fun _ _ _ h => h) (Or.inl ⟨by rfl, ?_⟩) ⟨unhide HS0, trivial⟩ ?_
  · intro W' hW
    go_split_ands
    go_simp
  refine wpR_take (i := 3) (oi := _) (v := .string ⟨#[109]⟩) rfl (by kernel_rfl) (by kernel_rfl) (by kernel_rfl) (by kernel_rfl) (fun _ _ _ h => h) (Or.inl ⟨by rfl, ?_⟩) ⟨unhide HS0, trivial⟩ ?_
  · intro W' hW
    go_split_ands
    go_simp
  refine wpR_take (i := 4) (oi := _) (v := .pointer (some ⟨g3, 0, none⟩)) rfl (by kernel_rfl) (by kernel_rfl) (by kernel_rfl) (by kernel_rfl) (fun _ _ _ h => h) (Or.inl ⟨by rfl, ?_⟩) ⟨unhide HS0, trivial⟩ ?_
  · intro W' hW
    go_split_ands
    go_simp
  refine wpR_take (i := 5) (oi := _) (v := .agg #[.int .i64 1, .int .i64 0, .int .i64 0, .int .i64 0, .int .i64 0, .int .i64 0, .int .i64 0, .int .i64 0]) rfl (by kernel_rfl) (by kernel_rfl) (by kernel_rfl) (by kernel_rfl) (fun _ _ _ h => h) (Or.inl ⟨by rfl, ?_⟩) ⟨unhide HS0, trivial⟩ ?_
  · intro W' hW
    go_split_ands
    go_simp
  refine wpR_take (i := 6) (oi := _) (v := .agg #[.int .i64 1, .int .i64 0, .int .i64 0, .int .i64 0, .int .i64 0, .int .i64 0, .int .i64 0, .int .i64 0, .int .i64 1, .int .i64 1]) rfl (by kernel_rfl) (by kernel_rfl) (by kernel_rfl) (by kernel_rfl) (fun _ _ _ h => h) (Or.inl ⟨by rfl, ?_⟩) ⟨unhide HS0, trivial⟩ ?_
  · intro W' hW
    go_split_ands
    go_simp
  refine wpR_take (i := 9) (oi := _) (v := .pointer (some ⟨w.heap.size, 2, none⟩)) rfl (by kernel_rfl) (by kernel_rfl) (by kernel_rfl) (by kernel_rfl) (fun _ _ _ h => h) (Or.inl ⟨by rfl, ?_⟩) ⟨unhide HS0, trivial⟩ ?_
  · intro W' hW
    go_split_ands
    go_simp
  refine wpR_take (i := 10) (oi := _) (v := .int .i64 1) rfl (by kernel_rfl) (by kernel_rfl) (by kernel_rfl) (by kernel_rfl) (fun _ _ _ h => h) (Or.inl ⟨by rfl, ?_⟩) ⟨unhide HS0, trivial⟩ ?_
  · intro W' hW
    go_split_ands
    go_simp
  clear HS0
  generalize (W.alloc (.cells #[.int .i64 1, .int .i64 0, .int .i64 0, .int .i64 0, .int .i64 0, .int .i64 0, .int .i64 0, .int .i64 0, .int .i64 1, .int .i64 1] 57)).drew = U0 at *
  refine wpR_op (i := 7) (o := _) (by kernel_rfl) rfl rfl (fun K hK => ?_)
  go_simp
  refine (factor_any 1 0 0 0 0 0 0 0 1 1 (1) ⟨#[49]⟩ ⟨#[49]⟩ _ (by decide) (by decide) (by decide +kernel) (by decide +kernel) isR_one (unhide HTA _ (unhide HB2))).mono ?_
  rintro e U7 ⟨rfl, hb⟩
  have HA3 := hide ((unhide HA2).later hb); have HR3 := hide ((unhide HR2).later hb); have HX3 := hide ((unhide HX2).later hb); have HB3 := hide ((unhide HB2).trans (hb.mono (unhide HB2).size))
  clear hb
  refine hK _ _ ⟨unhide HSS _ (unhide HA3) (unhide HX3), trivial⟩ ?_
  clear hK K
  refine wpR_op (i := 8) (o := _) (by kernel_rfl) rfl rfl (fun K hK => ?_)
  go_simp
  refine (zero_of _ (unhide HTA _ (unhide HB3))).mono ?_
  rintro e U8 ⟨rfl, hb⟩
  have HA4 := hide ((unhide HA3).later hb); have HR4 := hide ((unhide HR3).later hb); have HX4 := hide ((unhide HX3).later hb); have HB4 := hide ((unhide HB3).trans (hb.mono (unhide HB3).size))
  clear hb
  refine hK _ _ ⟨unhide HSS _ (unhide HA4) (unhide HX4), trivial⟩ ?_
  clear hK K
  refine wpR_op (i := 11) (o := _) (by kernel_rfl) rfl rfl (fun K hK => ?_)
  go_simp
  refine hK _ _ ⟨unhide HSS _ (unhide HA4) (unhide HX4), trivial⟩ ?_
  clear hK K
  refine wpR_late (i := 12) (o := _) (by kernel_rfl) rfl rfl (by kernel_rfl) (fun K hK => ?_)
  refine wp_store_row 30 (.tmp 2) (.tmp 18) rfl (w.heap.size + 1) #[.string ⟨#[109, 101, 116, 114, 101]⟩, .string ⟨#[109]⟩, .int .i64 1, .int .i64 0, .int .i64 0, .int .i64 0, .int .i64 0, .int .i64 0, .int .i64 0, .int .i64 0, .string ⟨#[49]⟩, .string ⟨#[49]⟩, .string ⟨#[48]⟩, .string ⟨#[49]⟩, .int .i64 1] rfl rfl 30 _ (unhide HR4) (by rw [info27]; rfl) rfl (by kernel_rfl) (hK _ _ trivial ?_)
  clear hK K
  refine wpR_done (by kernel_rfl) ?_
  go_wp2_with fail
  exact bodyPost_ret (v := .agg #[.string ⟨#[109, 101, 116, 114, 101]⟩, .string ⟨#[109]⟩, .int .i64 1, .int .i64 0, .int .i64 0, .int .i64 0, .int .i64 0, .int .i64 0, .int .i64 0, .int .i64 0, .string ⟨#[49]⟩, .string ⟨#[49]⟩, .string ⟨#[48]⟩, .string ⟨#[49]⟩, .int .i64 1]) (res27 Tryz.results11 _ _ (w.heap.size + 1) _ rfl rfl ((unhide HR4).setRow _)) rfl ⟨rfl, below_setRow (unhide HB4) (by omega) _⟩
set_option maxRecDepth 100000 in
set_option maxHeartbeats 4000000 in
theorem told_5 (w : World) (htab : Tab w) : Calls Tryz.prog 11 #[.agg #[.string ⟨#[103, 114, 97, 109]⟩, .string ⟨#[103]⟩, .int .i64 1, .func (.func 18) #[] #[]]] w fun r w' => r = .returned (.agg #[.string ⟨#[103, 114, 97, 109]⟩, .string ⟨#[103]⟩, .int .i64 0, .int .i64 1, .int .i64 0, .int .i64 0, .int .i64 0, .int .i64 0, .int .i64 0, .int .i64 0, .string ⟨#[49]⟩, .string ⟨#[49, 48, 48, 48]⟩, .string ⟨#[48]⟩, .string ⟨#[49]⟩, .int .i64 1]) ∧ Below w.heap.size w w' := by
  obtain ⟨V, hV⟩ : ∃ V, V = (w.alloc (.cells #[.string ⟨#[103, 114, 97, 109]⟩, .string ⟨#[103]⟩, .int .i64 1, .func (.func 18) #[] #[]] 38)).alloc (.cells #[.string ⟨#[]⟩, .string ⟨#[]⟩, .int .i64 0, .int .i64 0, .int .i64 0, .int .i64 0, .int .i64 0, .int .i64 0, .int .i64 0, .int .i64 0, .string ⟨#[]⟩, .string ⟨#[]⟩, .string ⟨#[]⟩, .string ⟨#[]⟩, .int .i64 0] 30) := ⟨_, rfl⟩
  have HA : Hid (OwnU V w.heap.size 38 #[.string ⟨#[103, 114, 97, 109]⟩, .string ⟨#[103]⟩, .int .i64 1, .func (.func 18) #[] #[]]) := by rw [hV]; exact (OwnU.new _ _ _).alloc _
  have HR : Hid (OwnU V (w.heap.size + 1) 30 #[.string ⟨#[]⟩, .string ⟨#[]⟩, .int .i64 0, .int .i64 0, .int .i64 0, .int .i64 0, .int .i64 0, .int .i64 0, .int .i64 0, .int .i64 0, .string ⟨#[]⟩, .string ⟨#[]⟩, .string ⟨#[]⟩, .string ⟨#[]⟩, .int .i64 0]) := by rw [hV]; have h := OwnU.new (w.alloc (.cells #[.string ⟨#[103, 114, 97, 109]⟩, .string ⟨#[103]⟩, .int .i64 1, .func (.func 18) #[] #[]] 38)) #[.string ⟨#[]⟩, .string ⟨#[]⟩, .int .i64 0, .int .i64 0, .int .i64 0, .int .i64 0, .int .i64 0, .int .i64 0, .int .i64 0, .int .i64 0, .string ⟨#[]⟩, .string ⟨#[]⟩, .string ⟨#[]⟩, .string ⟨#[]⟩, .int .i64 0] 30; rw [Dm.size_alloc] at h; exact h
  have HB : Hid (Below w.heap.size w V) := by rw [hV]; exact ((Below.refl _ _).alloc (Nat.le_refl _) _).alloc (by simp) _
  have HTA : Hid (∀ W, Below w.heap.size w W → Tab W) := fun W h => htab.later h
  have HV := hide hV
  clear hV htab
  go_enter Tryz.func11, Tryz.ntmps11
  go_upto_region 1 with fail
  rw [← unhide HV]
  clear HV
  have c3 : V.cell? ⟨w.heap.size, 3, none⟩ = some (.func (.func 18) #[] #[]) := (unhide HA).ub.c 3 _ rfl
  go_upto_region 2 with (go_at_call 18; go_must (refine (gram_made _).mono ?_; rintro e W ⟨rfl, hb⟩; have HA1 := hide ((unhide HA).later hb); have HR1 := hide ((unhide HR).later hb); have HB1 := hide ((unhide HB).trans (hb.mono (unhide HB).size)); clear hb c3 HA HR HB))
  have HX : Hid (OwnU (W.alloc (.cells #[.int .i64 0, .int .i64 1, .int .i64 0, .int .i64 0, .int .i64 0, .int .i64 0, .int .i64 0, .int .i64 0, .int .i64 1, .int .i64 1000] 57)) W.heap.size 57 #[.int .i64 0, .int .i64 1, .int .i64 0, .int .i64 0, .int .i64 0, .int .i64 0, .int .i64 0, .int .i64 0, .int .i64 1, .int .i64 1000]) := OwnU.new _ _ _
  have hal : Below W.heap.size W (W.alloc (.cells #[.int .i64 0, .int .i64 1, .int .i64 0, .int .i64 0, .int .i64 0, .int .i64 0, .int .i64 0, .int .i64 0, .int .i64 1, .int .i64 1000] 57)) := (Below.refl _ _).alloc (Nat.le_refl _) _
  have HA2 := hide ((unhide HA1).later (hal.trans (((Below.refl _ _).drew).mono hal.size))); have HR2 := hide ((unhide HR1).later (hal.trans (((Below.refl _ _).drew).mono hal.size))); have HB2 := hide ((unhide HB1).trans (Below.mono (hal.trans (((Below.refl _ _).drew).mono hal.size)) (unhide HB1).size)); have HX2 := hide ((unhide HX).later (Below.refl _ _).drew)
  obtain ⟨g3, hg3⟩ : ∃ g3, g3 = W.heap.size := ⟨_, rfl⟩
  rw [← hg3] at HX2 ⊢
  clear hal HX HA1 HR1 HB1 hg3
  have HSS : Hid (∀ W', OwnU W' w.heap.size 38 #[.string ⟨#[103, 114, 97, 109]⟩, .string ⟨#[103]⟩, .int .i64 1, .func (.func 18) #[] #[]] → OwnU W' g3 57 #[.int .i64 0, .int .i64 1, .int .i64 0, .int .i64 0, .int .i64 0, .int .i64 0, .int .i64 0, .int .i64 0, .int .i64 1, .int .i64 1000] → W'.cell? ⟨w.heap.size, 0, none⟩ = some (.string ⟨#[103, 114, 97, 109]⟩) ∧ W'.cell? ⟨w.heap.size, 1, none⟩ = some (.string ⟨#[103]⟩) ∧ W'.cell? ⟨w.heap.size, 2, none⟩ = some (.int .i64 1) ∧ W'.cell? ⟨g3, 0, none⟩ = some (.int .i64 0) ∧ W'.cell? ⟨g3, 1, none⟩ = some (.int .i64 1) ∧ W'.cell? ⟨g3, 2, none⟩ = some (.int .i64 0) ∧ W'.cell? ⟨g3, 3, none⟩ = some (.int .i64 0) ∧ W'.cell? ⟨g3, 4, none⟩ = some (.int .i64 0) ∧ W'.cell? ⟨g3, 5, none⟩ = some (.int .i64 0) ∧ W'.cell? ⟨g3, 6, none⟩ = some (.int .i64 0) ∧ W'.cell? ⟨g3, 7, none⟩ = some (.int .i64 0) ∧ W'.cell? ⟨g3, 8, none⟩ = some (.int .i64 1) ∧ W'.cell? ⟨g3, 9, none⟩ = some (.int .i64 1000)) := fun W' h h' => ⟨h.ub.c 0 _ rfl, h.ub.c 1 _ rfl, h.ub.c 2 _ rfl, h'.ub.c 0 _ rfl, h'.ub.c 1 _ rfl, h'.ub.c 2 _ rfl, h'.ub.c 3 _ rfl, h'.ub.c 4 _ rfl, h'.ub.c 5 _ rfl, h'.ub.c 6 _ rfl, h'.ub.c 7 _ rfl, h'.ub.c 8 _ rfl, h'.ub.c 9 _ rfl⟩
  have HS0 := hide (unhide HSS _ (unhide HA2) (unhide HX2))
  refine region_reads 12 (fun W' => W'.cell? ⟨w.heap.size, 0, none⟩ = some (.string ⟨#[103, 114, 97, 109]⟩) ∧ W'.cell? ⟨w.heap.size, 1, none⟩ = some (.string ⟨#[103]⟩) ∧ W'.cell? ⟨w.heap.size, 2, none⟩ = some (.int .i64 1) ∧ W'.cell? ⟨g3, 0, none⟩ = some (.int .i64 0) ∧ W'.cell? ⟨g3, 1, none⟩ = some (.int .i64 1) ∧ W'.cell? ⟨g3, 2, none⟩ = some (.int .i64 0) ∧ W'.cell? ⟨g3, 3, none⟩ = some (.int .i64 0) ∧ W'.cell? ⟨g3, 4, none⟩ = some (.int .i64 0) ∧ W'.cell? ⟨g3, 5, none⟩ = some (.int .i64 0) ∧ W'.cell? ⟨g3, 6, none⟩ = some (.int .i64 0) ∧ W'.cell? ⟨g3, 7, none⟩ = some (.int .i64 0) ∧ W'.cell? ⟨g3, 8, none⟩ = some (.int .i64 1) ∧ W'.cell? ⟨g3, 9, none⟩ = some (.int .i64 1000)) (fun _ => True) 13 rfl (by kernel_rfl) ?_
  refine wpR_take (i := 0) (oi := _) (v := .pointer (some ⟨w.heap.size, 0, none⟩)) rfl (by kernel_rfl) (by kernel_rfl) (by kernel_rfl) (by kernel_rfl) (fun _ _ _ h => h) (Or.inl ⟨by rfl, ?_⟩) ⟨unhide HS0, trivial⟩ ?_
  · intro W' hW
    go_split_ands
    go_simp
  refine wpR_take (i := 1) (oi := _) (v := .string ⟨#[103, 114, 97, 109]⟩) rfl (by kernel_rfl) (by kernel_rfl) (by kernel_rfl) (by kernel_rfl) (fun _ _ _ h => h) (Or.inl ⟨by rfl, ?_⟩) ⟨unhide HS0, trivial⟩ ?_
  · intro W' hW
    go_split_ands
    go_simp
  refine wpR_take (i := 2) (oi := _) (v := .pointer (some ⟨w.heap.size, 1, none⟩)) rfl (by kernel_rfl) (by kernel_rfl) (by kernel_rfl) (by kernel_rfl) (fun _ _ _ h => h) (Or.inl ⟨by rfl, ?_⟩) ⟨unhide HS0, trivial⟩ ?_
  · intro W' hW
    go_split_ands
    go_simp
  refine wpR_take (i := 3) (oi := _) (v := .string ⟨#[103]⟩) rfl (by kernel_rfl) (by kernel_rfl) (by kernel_rfl) (by kernel_rfl) (fun _ _ _ h => h) (Or.inl ⟨by rfl, ?_⟩) ⟨unhide HS0, trivial⟩ ?_
  · intro W' hW
    go_split_ands
    go_simp
  refine wpR_take (i := 4) (oi := _) (v := .pointer (some ⟨g3, 0, none⟩)) rfl (by kernel_rfl) (by kernel_rfl) (by kernel_rfl) (by kernel_rfl) (fun _ _ _ h => h) (Or.inl ⟨by rfl, ?_⟩) ⟨unhide HS0, trivial⟩ ?_
  · intro W' hW
    go_split_ands
    go_simp
  refine wpR_take (i := 5) (oi := _) (v := .agg #[.int .i64 0, .int .i64 1, .int .i64 0, .int .i64 0, .int .i64 0, .int .i64 0, .int .i64 0, .int .i64 0]) rfl (by kernel_rfl) (by kernel_rfl) (by kernel_rfl) (by kernel_rfl) (fun _ _ _ h => h) (Or.inl ⟨by rfl, ?_⟩) ⟨unhide HS0, trivial⟩ ?_
  · intro W' hW
    go_split_ands
    go_simp
  refine wpR_take (i := 6) (oi := _) (v := .agg #[.int .i64 0, .int .i64 1, .int .i64 0, .int .i64 0, .int .i64 0, .int .i64 0, .int .i64 0, .int .i64 0, .int .i64 1, .int .i64 1000]) rfl (by kernel_rfl) (by kernel_rfl) (by kernel_rfl) (by kernel_rfl) (fun _ _ _ h => h) (Or.inl ⟨by rfl, ?_⟩) ⟨unhide HS0, trivial⟩ ?_
  · intro W' hW
    go_split_ands
    go_simp
  refine wpR_take (i := 9) (oi := _) (v := .pointer (some ⟨w.heap.size, 2, none⟩)) rfl (by kernel_rfl) (by kernel_rfl) (by kernel_rfl) (by kernel_rfl) (fun _ _ _ h => h) (Or.inl ⟨by rfl, ?_⟩) ⟨unhide HS0, trivial⟩ ?_
  · intro W' hW
    go_split_ands
    go_simp
  refine wpR_take (i := 10) (oi := _) (v := .int .i64 1) rfl (by kernel_rfl) (by kernel_rfl) (by kernel_rfl) (by kernel_rfl) (fun _ _ _ h => h) (Or.inl ⟨by rfl, ?_⟩) ⟨unhide HS0, trivial⟩ ?_
  · intro W' hW
    go_split_ands
    go_simp
  clear HS0
  generalize (W.alloc (.cells #[.int .i64 0, .int .i64 1, .int .i64 0, .int .i64 0, .int .i64 0, .int .i64 0, .int .i64 0, .int .i64 0, .int .i64 1, .int .i64 1000] 57)).drew = U0 at *
  refine wpR_op (i := 7) (o := _) (by kernel_rfl) rfl rfl (fun K hK => ?_)
  go_simp
  refine (factor_any 0 1 0 0 0 0 0 0 1 1000 (1 / 1000) ⟨#[49]⟩ ⟨#[49, 48, 48, 48]⟩ _ (by decide) (by decide) (by decide +kernel) (by decide +kernel) isR_milli (unhide HTA _ (unhide HB2))).mono ?_
  rintro e U7 ⟨rfl, hb⟩
  have HA3 := hide ((unhide HA2).later hb); have HR3 := hide ((unhide HR2).later hb); have HX3 := hide ((unhide HX2).later hb); have HB3 := hide ((unhide HB2).trans (hb.mono (unhide HB2).size))
  clear hb
  refine hK _ _ ⟨unhide HSS _ (unhide HA3) (unhide HX3), trivial⟩ ?_
  clear hK K
  refine wpR_op (i := 8) (o := _) (by kernel_rfl) rfl rfl (fun K hK => ?_)
  go_simp
  refine (zero_of _ (unhide HTA _ (unhide HB3))).mono ?_
  rintro e U8 ⟨rfl, hb⟩
  have HA4 := hide ((unhide HA3).later hb); have HR4 := hide ((unhide HR3).later hb); have HX4 := hide ((unhide HX3).later hb); have HB4 := hide ((unhide HB3).trans (hb.mono (unhide HB3).size))
  clear hb
  refine hK _ _ ⟨unhide HSS _ (unhide HA4) (unhide HX4), trivial⟩ ?_
  clear hK K
  refine wpR_op (i := 11) (o := _) (by kernel_rfl) rfl rfl (fun K hK => ?_)
  go_simp
  refine hK _ _ ⟨unhide HSS _ (unhide HA4) (unhide HX4), trivial⟩ ?_
  clear hK K
  refine wpR_late (i := 12) (o := _) (by kernel_rfl) rfl rfl (by kernel_rfl) (fun K hK => ?_)
  refine wp_store_row 30 (.tmp 2) (.tmp 18) rfl (w.heap.size + 1) #[.string ⟨#[103, 114, 97, 109]⟩, .string ⟨#[103]⟩, .int .i64 0, .int .i64 1, .int .i64 0, .int .i64 0, .int .i64 0, .int .i64 0, .int .i64 0, .int .i64 0, .string ⟨#[49]⟩, .string ⟨#[49, 48, 48, 48]⟩, .string ⟨#[48]⟩, .string ⟨#[49]⟩, .int .i64 1] rfl rfl 30 _ (unhide HR4) (by rw [info27]; rfl) rfl (by kernel_rfl) (hK _ _ trivial ?_)
  clear hK K
  refine wpR_done (by kernel_rfl) ?_
  go_wp2_with fail
  exact bodyPost_ret (v := .agg #[.string ⟨#[103, 114, 97, 109]⟩, .string ⟨#[103]⟩, .int .i64 0, .int .i64 1, .int .i64 0, .int .i64 0, .int .i64 0, .int .i64 0, .int .i64 0, .int .i64 0, .string ⟨#[49]⟩, .string ⟨#[49, 48, 48, 48]⟩, .string ⟨#[48]⟩, .string ⟨#[49]⟩, .int .i64 1]) (res27 Tryz.results11 _ _ (w.heap.size + 1) _ rfl rfl ((unhide HR4).setRow _)) rfl ⟨rfl, below_setRow (unhide HB4) (by omega) _⟩
set_option maxRecDepth 100000 in
set_option maxHeartbeats 4000000 in
theorem told_6 (w : World) (htab : Tab w) : Calls Tryz.prog 11 #[.agg #[.string ⟨#[99, 97, 110, 100, 101, 108, 97]⟩, .string ⟨#[99, 100]⟩, .int .i64 1, .func (.func 19) #[] #[]]] w fun r w' => r = .returned (.agg #[.string ⟨#[99, 97, 110, 100, 101, 108, 97]⟩, .string ⟨#[99, 100]⟩, .int .i64 0, .int .i64 0, .int .i64 0, .int .i64 0, .int .i64 0, .int .i64 0, .int .i64 1, .int .i64 0, .string ⟨#[49]⟩, .string ⟨#[49]⟩, .string ⟨#[48]⟩, .string ⟨#[49]⟩, .int .i64 1]) ∧ Below w.heap.size w w' := by
  obtain ⟨V, hV⟩ : ∃ V, V = (w.alloc (.cells #[.string ⟨#[99, 97, 110, 100, 101, 108, 97]⟩, .string ⟨#[99, 100]⟩, .int .i64 1, .func (.func 19) #[] #[]] 38)).alloc (.cells #[.string ⟨#[]⟩, .string ⟨#[]⟩, .int .i64 0, .int .i64 0, .int .i64 0, .int .i64 0, .int .i64 0, .int .i64 0, .int .i64 0, .int .i64 0, .string ⟨#[]⟩, .string ⟨#[]⟩, .string ⟨#[]⟩, .string ⟨#[]⟩, .int .i64 0] 30) := ⟨_, rfl⟩
  have HA : Hid (OwnU V w.heap.size 38 #[.string ⟨#[99, 97, 110, 100, 101, 108, 97]⟩, .string ⟨#[99, 100]⟩, .int .i64 1, .func (.func 19) #[] #[]]) := by rw [hV]; exact (OwnU.new _ _ _).alloc _
  have HR : Hid (OwnU V (w.heap.size + 1) 30 #[.string ⟨#[]⟩, .string ⟨#[]⟩, .int .i64 0, .int .i64 0, .int .i64 0, .int .i64 0, .int .i64 0, .int .i64 0, .int .i64 0, .int .i64 0, .string ⟨#[]⟩, .string ⟨#[]⟩, .string ⟨#[]⟩, .string ⟨#[]⟩, .int .i64 0]) := by rw [hV]; have h := OwnU.new (w.alloc (.cells #[.string ⟨#[99, 97, 110, 100, 101, 108, 97]⟩, .string ⟨#[99, 100]⟩, .int .i64 1, .func (.func 19) #[] #[]] 38)) #[.string ⟨#[]⟩, .string ⟨#[]⟩, .int .i64 0, .int .i64 0, .int .i64 0, .int .i64 0, .int .i64 0, .int .i64 0, .int .i64 0, .int .i64 0, .string ⟨#[]⟩, .string ⟨#[]⟩, .string ⟨#[]⟩, .string ⟨#[]⟩, .int .i64 0] 30; rw [Dm.size_alloc] at h; exact h
  have HB : Hid (Below w.heap.size w V) := by rw [hV]; exact ((Below.refl _ _).alloc (Nat.le_refl _) _).alloc (by simp) _
  have HTA : Hid (∀ W, Below w.heap.size w W → Tab W) := fun W h => htab.later h
  have HV := hide hV
  clear hV htab
  go_enter Tryz.func11, Tryz.ntmps11
  go_upto_region 1 with fail
  rw [← unhide HV]
  clear HV
  have c3 : V.cell? ⟨w.heap.size, 3, none⟩ = some (.func (.func 19) #[] #[]) := (unhide HA).ub.c 3 _ rfl
  go_upto_region 2 with (go_at_call 19; go_must (refine (candela_made _).mono ?_; rintro e W ⟨rfl, hb⟩; have HA1 := hide ((unhide HA).later hb); have HR1 := hide ((unhide HR).later hb); have HB1 := hide ((unhide HB).trans (hb.mono (unhide HB).size)); clear hb c3 HA HR HB))
  have HX : Hid (OwnU (W.alloc (.cells #[.int .i64 0, .int .i64 0, .int .i64 0, .int .i64 0, .int .i64 0, .int .i64 0, .int .i64 1, .int .i64 0, .int .i64 1000, .int .i64 1000] 57)) W.heap.size 57 #[.int .i64 0, .int .i64 0, .int .i64 0, .int .i64 0, .int .i64 0, .int .i64 0, .int .i64 1, .int .i64 0, .int .i64 1000, .int .i64 1000]) := OwnU.new _ _ _
  have hal : Below W.heap.size W (W.alloc (.cells #[.int .i64 0, .int .i64 0, .int .i64 0, .int .i64 0, .int .i64 0, .int .i64 0, .int .i64 1, .int .i64 0, .int .i64 1000, .int .i64 1000] 57)) := (Below.refl _ _).alloc (Nat.le_refl _) _
  have HA2 := hide ((unhide HA1).later (hal.trans (((Below.refl _ _).drew).mono hal.size))); have HR2 := hide ((unhide HR1).later (hal.trans (((Below.refl _ _).drew).mono hal.size))); have HB2 := hide ((unhide HB1).trans (Below.mono (hal.trans (((Below.refl _ _).drew).mono hal.size)) (unhide HB1).size)); have HX2 := hide ((unhide HX).later (Below.refl _ _).drew)
  obtain ⟨g3, hg3⟩ : ∃ g3, g3 = W.heap.size := ⟨_, rfl⟩
  rw [← hg3] at HX2 ⊢
  clear hal HX HA1 HR1 HB1 hg3
  have HSS : Hid (∀ W', OwnU W' w.heap.size 38 #[.string ⟨#[99, 97, 110, 100, 101, 108, 97]⟩, .string ⟨#[99, 100]⟩, .int .i64 1, .func (.func 19) #[] #[]] → OwnU W' g3 57 #[.int .i64 0, .int .i64 0, .int .i64 0, .int .i64 0, .int .i64 0, .int .i64 0, .int .i64 1, .int .i64 0, .int .i64 1000, .int .i64 1000] → W'.cell? ⟨w.heap.size, 0, none⟩ = some (.string ⟨#[99, 97, 110, 100, 101, 108, 97]⟩) ∧ W'.cell? ⟨w.heap.size, 1, none⟩ = some (.string ⟨#[99, 100]⟩) ∧ W'.cell? ⟨w.heap.size, 2, none⟩ = some (.int .i64 1) ∧ W'.cell? ⟨g3, 0, none⟩ = some (.int .i64 0) ∧ W'.cell? ⟨g3, 1, none⟩ = some (.int .i64 0) ∧ W'.cell? ⟨g3, 2, none⟩ = some (.int .i64 0) ∧ W'.cell? ⟨g3, 3, none⟩ = some (.int .i64 0) ∧ W'.cell? ⟨g3, 4, none⟩ = some (.int .i64 0) ∧ W'.cell? ⟨g3, 5, none⟩ = some (.int .i64 0) ∧ W'.cell? ⟨g3, 6, none⟩ = some (.int .i64 1) ∧ W'.cell? ⟨g3, 7, none⟩ = some (.int .i64 0) ∧ W'.cell? ⟨g3, 8, none⟩ = some (.int .i64 1000) ∧ W'.cell? ⟨g3, 9, none⟩ = some (.int .i64 1000)) := fun W' h h' => ⟨h.ub.c 0 _ rfl, h.ub.c 1 _ rfl, h.ub.c 2 _ rfl, h'.ub.c 0 _ rfl, h'.ub.c 1 _ rfl, h'.ub.c 2 _ rfl, h'.ub.c 3 _ rfl, h'.ub.c 4 _ rfl, h'.ub.c 5 _ rfl, h'.ub.c 6 _ rfl, h'.ub.c 7 _ rfl, h'.ub.c 8 _ rfl, h'.ub.c 9 _ rfl⟩
  have HS0 := hide (unhide HSS _ (unhide HA2) (unhide HX2))
  refine region_reads 12 (fun W' => W'.cell? ⟨w.heap.size, 0, none⟩ = some (.string ⟨#[99, 97, 110, 100, 101, 108, 97]⟩) ∧ W'.cell? ⟨w.heap.size, 1, none⟩ = some (.string ⟨#[99, 100]⟩) ∧ W'.cell? ⟨w.heap.size, 2, none⟩ = some (.int .i64 1) ∧ W'.cell? ⟨g3, 0, none⟩ = some (.int .i64 0) ∧ W'.cell? ⟨g3, 1, none⟩ = some (.int .i64 0) ∧ W'.cell? ⟨g3, 2, none⟩ = some (.int .i64 0) ∧ W'.cell? ⟨g3, 3, none⟩ = some (.int .i64 0) ∧ W'.cell? ⟨g3, 4, none⟩ = some (.int .i64 0) ∧ W'.cell? ⟨g3, 5, none⟩ = some (.int .i64 0) ∧ W'.cell? ⟨g3, 6, none⟩ = some (.int .i64 1) ∧ W'.cell? ⟨g3, 7, none⟩ = some (.int .i64 0) ∧ W'.cell? ⟨g3, 8, none⟩ = some (.int .i64 1000) ∧ W'.cell? ⟨g3, 9, none⟩ = some (.int .i64 1000)) (fun _ => True) 13 rfl (by kernel_rfl) ?_
  refine wpR_take (i := 0) (oi := _) (v := .pointer (some ⟨w.heap.size, 0, none⟩)) rfl (by kernel_rfl) (by kernel_rfl) (by kernel_rfl) (by kernel_rfl) (fun _ _ _ h => h) (Or.inl ⟨by rfl, ?_⟩) ⟨unhide HS0, trivial⟩ ?_
  · intro W' hW
    go_split_ands
    go_simp
  refine wpR_take (i := 1) (oi := _) (v := .string ⟨#[99, 97, 110, 100, 101, 108, 97]⟩) rfl (by kernel_rfl) (by kernel_rfl) (by kernel_rfl) (by kernel_rfl) (fun _ _ _ h => h) (Or.inl ⟨by rfl, ?_⟩) ⟨unhide HS0, trivial⟩ ?_
  · intro W' hW
    go_split_ands
    go_simp
  refine wpR_take (i := 2) (oi := _) (v := .pointer (some ⟨w.heap.size, 1, none⟩)) rfl (by kernel_rfl) (by kernel_rfl) (by kernel_rfl) (by kernel_rfl) (fun _ _ _ h => h) (Or.inl ⟨by rfl, ?_⟩) ⟨unhide HS0, trivial⟩ ?_
  · intro W' hW
    go_split_ands
    go_simp
  refine wpR_take (i := 3) (oi := _) (v := .string ⟨#[99, 100]⟩) rfl (by kernel_rfl) (by kernel_rfl) (by kernel_rfl) (by kernel_rfl) (fun _ _ _ h => h) (Or.inl ⟨by rfl, ?_⟩) ⟨unhide HS0, trivial⟩ ?_
  · intro W' hW
    go_split_ands
    go_simp
  refine wpR_take (i := 4) (oi := _) (v := .pointer (some ⟨g3, 0, none⟩)) rfl (by kernel_rfl) (by kernel_rfl) (by kernel_rfl) (by kernel_rfl) (fun _ _ _ h => h) (Or.inl ⟨by rfl, ?_⟩) ⟨unhide HS0, trivial⟩ ?_
  · intro W' hW
    go_split_ands
    go_simp
  refine wpR_take (i := 5) (oi := _) (v := .agg #[.int .i64 0, .int .i64 0, .int .i64 0, .int .i64 0, .int .i64 0, .int .i64 0, .int .i64 1, .int .i64 0]) rfl (by kernel_rfl) (by kernel_rfl) (by kernel_rfl) (by kernel_rfl) (fun _ _ _ h => h) (Or.inl ⟨by rfl, ?_⟩) ⟨unhide HS0, trivial⟩ ?_
  · intro W' hW
    go_split_ands
    go_simp
  refine wpR_take (i := 6) (oi := _) (v := .agg #[.int .i64 0, .int .i64 0, .int .i64 0, .int .i64 0, .int .i64 0, .int .i64 0, .int .i64 1, .int .i64 0, .int .i64 1000, .int .i64 1000]) rfl (by kernel_rfl) (by kernel_rfl) (by kernel_rfl) (by kernel_rfl) (fun _ _ _ h => h) (Or.inl ⟨by rfl, ?_⟩) ⟨unhide HS0, trivial⟩ ?_
  · intro W' hW
    go_split_ands
    go_simp
  refine wpR_take (i := 9) (oi := _) (v := .pointer (some ⟨w.heap.size, 2, none⟩)) rfl (by kernel_rfl) (by kernel_rfl) (by kernel_rfl) (by kernel_rfl) (fun _ _ _ h => h) (Or.inl ⟨by rfl, ?_⟩) ⟨unhide HS0, trivial⟩ ?_
  · intro W' hW
    go_split_ands
    go_simp
  refine wpR_take (i := 10) (oi := _) (v := .int .i64 1) rfl (by kernel_rfl) (by kernel_rfl) (by kernel_rfl) (by kernel_rfl) (fun _ _ _ h => h) (Or.inl ⟨by rfl, ?_⟩) ⟨unhide HS0, trivial⟩ ?_
  · intro W' hW
    go_split_ands
    go_simp
  clear HS0
  generalize (W.alloc (.cells #[.int .i64 0, .int .i64 0, .int .i64 0, .int .i64 0, .int .i64 0, .int .i64 0, .int .i64 1, .int .i64 0, .int .i64 1000, .int .i64 1000] 57)).drew = U0 at *
  refine wpR_op (i := 7) (o := _) (by kernel_rfl) rfl rfl (fun K hK => ?_)
  go_simp
  refine (factor_any 0 0 0 0 0 0 1 0 1000 1000 (1) ⟨#[49]⟩ ⟨#[49]⟩ _ (by decide) (by decide) (by decide +kernel) (by decide +kernel) isR_one (unhide HTA _ (unhide HB2))).mono ?_
  rintro e U7 ⟨rfl, hb⟩
  have HA3 := hide ((unhide HA2).later hb); have HR3 := hide ((unhide HR2).later hb); have HX3 := hide ((unhide HX2).later hb); have HB3 := hide ((unhide HB2).trans (hb.mono (unhide HB2).size))
  clear hb
  refine hK _ _ ⟨unhide HSS _ (unhide HA3) (unhide HX3), trivial⟩ ?_
  clear hK K
  refine wpR_op (i := 8) (o := _) (by kernel_rfl) rfl rfl (fun K hK => ?_)
  go_simp
  refine (zero_of _ (unhide HTA _ (unhide HB3))).mono ?_
  rintro e U8 ⟨rfl, hb⟩
  have HA4 := hide ((unhide HA3).later hb); have HR4 := hide ((unhide HR3).later hb); have HX4 := hide ((unhide HX3).later hb); have HB4 := hide ((unhide HB3).trans (hb.mono (unhide HB3).size))
  clear hb
  refine hK _ _ ⟨unhide HSS _ (unhide HA4) (unhide HX4), trivial⟩ ?_
  clear hK K
  refine wpR_op (i := 11) (o := _) (by kernel_rfl) rfl rfl (fun K hK => ?_)
  go_simp
  refine hK _ _ ⟨unhide HSS _ (unhide HA4) (unhide HX4), trivial⟩ ?_
  clear hK K
  refine wpR_late (i := 12) (o := _) (by kernel_rfl) rfl rfl (by kernel_rfl) (fun K hK => ?_)
  refine wp_store_row 30 (.tmp 2) (.tmp 18) rfl (w.heap.size + 1) #[.string ⟨#[99, 97, 110, 100, 101, 108, 97]⟩, .string ⟨#[99, 100]⟩, .int .i64 0, .int .i64 0, .int .i64 0, .int .i64 0, .int .i64 0, .int .i64 0, .int .i64 1, .int .i64 0, .string ⟨#[49]⟩, .string ⟨#[49]⟩, .string ⟨#[48]⟩, .string ⟨#[49]⟩, .int .i64 1] rfl rfl 30 _ (unhide HR4) (by rw [info27]; rfl) rfl (by kernel_rfl) (hK _ _ trivial ?_)
  clear hK K
  refine wpR_done (by kernel_rfl) ?_
  go_wp2_with fail
  exact bodyPost_ret (v := .agg #[.string ⟨#[99, 97, 110, 100, 101, 108, 97]⟩, .string ⟨#[99, 100]⟩, .int .i64 0, .int .i64 0, .int .i64 0, .int .i64 0, .int .i64 0, .int .i64 0, .int .i64 1, .int .i64 0, .string ⟨#[49]⟩, .string ⟨#[49]⟩, .string ⟨#[48]⟩, .string ⟨#[49]⟩, .int .i64 1]) (res27 Tryz.results11 _ _ (w.heap.size + 1) _ rfl rfl ((unhide HR4).setRow _)) rfl ⟨rfl, below_setRow (unhide HB4) (by omega) _⟩
set_option maxRecDepth 100000 in
set_option maxHeartbeats 4000000 in
theorem told_7 (w : World) (htab : Tab w) : Calls Tryz.prog 11 #[.agg #[.string ⟨#[107, 101, 108, 118, 105, 110]⟩, .string ⟨#[75]⟩, .int .i64 1, .func (.func 20) #[] #[]]] w fun r w' => r = .returned (.agg #[.string ⟨#[107, 101, 108, 118, 105, 110]⟩, .string ⟨#[75]⟩, .int .i64 0, .int .i64 0, .int .i64 0, .int .i64 0, .int .i64 1, .int .i64 0, .int .i64 0, .int .i64 0, .string ⟨#[49]⟩, .string ⟨#[49]⟩, .string ⟨#[48]⟩, .string ⟨#[49]⟩, .int .i64 1]) ∧ Below w.heap.size w w' := by
  obtain ⟨V, hV⟩ : ∃ V, V = (w.alloc (.cells #[.string ⟨#[107, 101, 108, 118, 105, 110]⟩, .string ⟨#[75]⟩, .int .i64 1, .func (.func 20) #[] #[]] 38)).alloc (.cells #[.string ⟨#[]⟩, .string ⟨#[]⟩, .int .i64 0, .int .i64 0, .int .i64 0, .int .i64 0, .int .i64 0, .int .i64 0, .int .i64 0, .int .i64 0, .string ⟨#[]⟩, .string ⟨#[]⟩, .string ⟨#[]⟩, .string ⟨#[]⟩, .int .i64 0] 30) := ⟨_, rfl⟩
  have HA : Hid (OwnU V w.heap.size 38 #[.string ⟨#[107, 101, 108, 118, 105, 110]⟩, .string ⟨#[75]⟩, .int .i64 1, .func (.func 20) #[] #[]]) := by rw [hV]; exact (OwnU.new _ _ _).alloc _
  have HR : Hid (OwnU V (w.heap.size + 1) 30 #[.string ⟨#[]⟩, .string ⟨#[]⟩, .int .i64 0, .int .i64 0, .int .i64 0, .int .i64 0, .int .i64 0, .int .i64 0, .int .i64 0, .int .i64 0, .string ⟨#[]⟩, .string ⟨#[]⟩, .string ⟨#[]⟩, .string ⟨#[]⟩, .int .i64 0]) := by rw [hV]; have h := OwnU.new (w.alloc (.cells #[.string ⟨#[107, 101, 108, 118, 105, 110]⟩, .string ⟨#[75]⟩, .int .i64 1, .func (.func 20) #[] #[]] 38)) #[.string ⟨#[]⟩, .string ⟨#[]⟩, .int .i64 0, .int .i64 0, .int .i64 0, .int .i64 0, .int .i64 0, .int .i64 0, .int .i64 0, .int .i64 0, .string ⟨#[]⟩, .string ⟨#[]⟩, .string ⟨#[]⟩, .string ⟨#[]⟩, .int .i64 0] 30; rw [Dm.size_alloc] at h; exact h
  have HB : Hid (Below w.heap.size w V) := by rw [hV]; exact ((Below.refl _ _).alloc (Nat.le_refl _) _).alloc (by simp) _
  have HTA : Hid (∀ W, Below w.heap.size w W → Tab W) := fun W h => htab.later h
  have HV := hide hV
  clear hV htab
  go_enter Tryz.func11, Tryz.ntmps11
  go_upto_region 1 with fail
  rw [← unhide HV]
  clear HV
  have c3 : V.cell? ⟨w.heap.size, 3, none⟩ = some (.func (.func 20) #[] #[]) := (unhide HA).ub.c 3 _ rfl
  go_upto_region 2 with (go_at_call 20; go_must (refine (kelvin_made _).mono ?_; rintro e W ⟨rfl, hb⟩; have HA1 := hide ((unhide HA).later hb); have HR1 := hide ((unhide HR).later hb); have HB1 := hide ((unhide HB).trans (hb.mono (unhide HB).size)); clear hb c3 HA HR HB))
  have HX : Hid (OwnU (W.alloc (.cells #[.int .i64 0, .int .i64 0, .int .i64 0, .int .i64 0, .int .i64 1, .int .i64 0, .int .i64 0, .int .i64 0, .int .i64 1000, .int .i64 1000] 57)) W.heap.size 57 #[.int .i64 0, .int .i64 0, .int .i64 0, .int .i64 0, .int .i64 1, .int .i64 0, .int .i64 0, .int .i64 0, .int .i64 1000, .int .i64 1000]) := OwnU.new _ _ _
  have hal : Below W.heap.size W (W.alloc (.cells #[.int .i64 0, .int .i64 0, .int .i64 0, .int .i64 0, .int .i64 1, .int .i64 0, .int .i64 0, .int .i64 0, .int .i64 1000, .int .i64 1000] 57)) := (Below.refl _ _).alloc (Nat.le_refl _) _
  have HA2 := hide ((unhide HA1).later (hal.trans (((Below.refl _ _).drew).mono hal.size))); have HR2 := hide ((unhide HR1).later (hal.trans (((Below.refl _ _).drew).mono hal.size))); have HB2 := hide ((unhide HB1).trans (Below.mono (hal.trans (((Below.refl _ _).drew).mono hal.size)) (unhide HB1).size)); have HX2 := hide ((unhide HX).later (Below.refl _ _).drew)
  obtain ⟨g3, hg3⟩ : ∃ g3, g3 = W.heap.size := ⟨_, rfl⟩
  rw [← hg3] at HX2 ⊢
  clear hal HX HA1 HR1 HB1 hg3
  have HSS : Hid (∀ W', OwnU W' w.heap.size 38 #[.string ⟨#[107, 101, 108, 118, 105, 110]⟩, .string ⟨#[75]⟩, .int .i64 1, .func (.func 20) #[] #[]] → OwnU W' g3 57 #[.int .i64 0, .int .i64 0, .int .i64 0, .int .i64 0, .int .i64 1, .int .i64 0, .int .i64 0, .int .i64 0, .int .i64 1000, .int .i64 1000] → W'.cell? ⟨w.heap.size, 0, none⟩ = some (.string ⟨#[107, 101, 108, 118, 105, 110]⟩) ∧ W'.cell? ⟨w.heap.size, 1, none⟩ = some (.string ⟨#[75]⟩) ∧ W'.cell? ⟨w.heap.size, 2, none⟩ = some (.int .i64 1) ∧ W'.cell? ⟨g3, 0, none⟩ = some (.int .i64 0) ∧ W'.cell? ⟨g3, 1, none⟩ = some (.int .i64 0) ∧ W'.cell? ⟨g3, 2, none⟩ = some (.int .i64 0) ∧ W'.cell? ⟨g3, 3, none⟩ = some (.int .i64 0) ∧ W'.cell? ⟨g3, 4, none⟩ = some (.int .i64 1) ∧ W'.cell? ⟨g3, 5, none⟩ = some (.int .i64 0) ∧ W'.cell? ⟨g3, 6, none⟩ = some (.int .i64 0) ∧ W'.cell? ⟨g3, 7, none⟩ = some (.int .i64 0) ∧ W'.cell? ⟨g3, 8, none⟩ = some (.int .i64 1000) ∧ W'.cell? ⟨g3, 9, none⟩ = some (.int .i64 1000)) := fun W' h h' => ⟨h.ub.c 0 _ rfl, h.ub.c 1 _ rfl, h.ub.c 2 _ rfl, h'.ub.c 0 _ rfl, h'.ub.c 1 _ rfl, h'.ub.c 2 _ rfl, h'.ub.c 3 _ rfl, h'.ub.c 4 _ rfl, h'.ub.c 5 _ rfl, h'.ub.c 6 _ rfl, h'.ub.c 7 _ rfl, h'.ub.c 8 _ rfl, h'.ub.c 9 _ rfl⟩
  have HS0 := hide (unhide HSS _ (unhide HA2) (unhide HX2))
  refine region_reads 12 (fun W' => W'.cell? ⟨w.heap.size, 0, none⟩ = some (.string ⟨#[107, 101, 108, 118, 105, 110]⟩) ∧ W'.cell? ⟨w.heap.size, 1, none⟩ = some (.string ⟨#[75]⟩) ∧ W'.cell? ⟨w.heap.size, 2, none⟩ = some (.int .i64 1) ∧ W'.cell? ⟨g3, 0, none⟩ = some (.int .i64 0) ∧ W'.cell? ⟨g3, 1, none⟩ = some (.int .i64 0) ∧ W'.cell? ⟨g3, 2, none⟩ = some (.int .i64 0) ∧ W'.cell? ⟨g3, 3, none⟩ = some (.int .i64 0) ∧ W'.cell? ⟨g3, 4, none⟩ = some (.int .i64 1) ∧ W'.cell? ⟨g3, 5, none⟩ = some (.int .i64 0) ∧ W'.cell? ⟨g3, 6, none⟩ = some (.int .i64 0) ∧ W'.cell? ⟨g3, 7, none⟩ = some (.int .i64 0) ∧ W'.cell? ⟨g3, 8, none⟩ = some (.int .i64 1000) ∧ W'.cell? ⟨g3, 9, none⟩ = some (.int .i64 1000)) (fun _ => True) 13 rfl (by kernel_rfl) ?_
  refine wpR_take (i := 0) (oi := _) (v := .pointer (some ⟨w.heap.size, 0, none⟩)) rfl (by kernel_rfl) (by kernel_rfl) (by kernel_rfl) (by kernel_rfl) (fun _ _ _ h => h) (Or.inl ⟨by rfl, ?_⟩) ⟨unhide HS0, trivial⟩ ?_
  · intro W' hW
    go_split_ands
    go_simp
  refine wpR_take (i := 1) (oi := _) (v := .string ⟨#[107, 101, 108, 118, 105, 110]⟩) rfl (by kernel_rfl) (by kernel_rfl) (by kernel_rfl) (by kernel_rfl) (fun _ _ _ h => h) (Or.inl ⟨by rfl, ?_⟩) ⟨unhide HS0, trivial⟩ ?_
  · intro W' hW
    go_split_ands
    go_simp
  refine wpR_take (i := 2) (oi := _) (v := .pointer (some ⟨w.heap.size, 1, none⟩)) rfl (by kernel_rfl) (by kernel_rfl) (by kernel_rfl) (by kernel_rfl) (fun _ _ _ h => h) (Or.inl ⟨by rfl, ?_⟩) ⟨unhide HS0, trivial⟩ ?_
  · intro W' hW
    go_split_ands
    go_simp
  refine wpR_take (i := 3) (oi := _) (v := .string ⟨#[75]⟩) rfl (by kernel_rfl) (by kernel_rfl) (by kernel_rfl) (by kernel_rfl) (fun _ _ _ h => h) (Or.inl ⟨by rfl, ?_⟩) ⟨unhide HS0, trivial⟩ ?_
  · intro W' hW
    go_split_ands
    go_simp
  refine wpR_take (i := 4) (oi := _) (v := .pointer (some ⟨g3, 0, none⟩)) rfl (by kernel_rfl) (by kernel_rfl) (by kernel_rfl) (by kernel_rfl) (fun _ _ _ h => h) (Or.inl ⟨by rfl, ?_⟩) ⟨unhide HS0, trivial⟩ ?_
  · intro W' hW
    go_split_ands
    go_simp
  refine wpR_take (i := 5) (oi := _) (v := .agg #[.int .i64 0, .int .i64 0, .int .i64 0, .int .i64 0, .int .i64 1, .int .i64 0, .int .i64 0, .int .i64 0]) rfl (by kernel_rfl) (by kernel_rfl) (by kernel_rfl) (by kernel_rfl) (fun _ _ _ h => h) (Or.inl ⟨by rfl, ?_⟩) ⟨unhide HS0, trivial⟩ ?_
  · intro W' hW
    go_split_ands
    go_simp
  refine wpR_take (i := 6) (oi := _) (v := .agg #[.int .i64 0, .int .i64 0, .int .i64 0, .int .i64 0, .int .i64 1, .int .i64 0, .int .i64 0, .int .i64 0, .int .i64 1000, .int .i64 1000]) rfl (by kernel_rfl) (by kernel_rfl) (by kernel_rfl) (by kernel_rfl) (fun _ _ _ h => h) (Or.inl ⟨by rfl, ?_⟩) ⟨unhide HS0, trivial⟩ ?_
  · intro W' hW
    go_split_ands
    go_simp
  refine wpR_take (i := 9) (oi := _) (v := .pointer (some ⟨w.heap.size, 2, none⟩)) rfl (by kernel_rfl) (by kernel_rfl) (by kernel_rfl) (by kernel_rfl) (fun _ _ _ h => h) (Or.inl ⟨by rfl, ?_⟩) ⟨unhide HS0, trivial⟩ ?_
  · intro W' hW
    go_split_ands
    go_simp
  refine wpR_take (i := 10) (oi := _) (v := .int .i64 1) rfl (by kernel_rfl) (by kernel_rfl) (by kernel_rfl) (by kernel_rfl) (fun _ _ _ h => h) (Or.inl ⟨by rfl, ?_⟩) ⟨unhide HS0, trivial⟩ ?_
  · intro W' hW
    go_split_ands
    go_simp
  clear HS0
  generalize (W.alloc (.cells #[.int .i64 0, .int .i64 0, .int .i64 0, .int .i64 0, .int .i64 1, .int .i64 0, .int .i64 0, .int .i64 0, .int .i64 1000, .int .i64 1000] 57)).drew = U0 at *
  refine wpR_op (i := 7) (o := _) (by kernel_rfl) rfl rfl (fun K hK => ?_)
  go_simp
  refine (factor_any 0 0 0 0 1 0 0 0 1000 1000 (1) ⟨#[49]⟩ ⟨#[49]⟩ _ (by decide) (by decide) (by decide +kernel) (by decide +kernel) isR_one (unhide HTA _ (unhide HB2))).mono ?_
  rintro e U7 ⟨rfl, hb⟩
  have HA3 := hide ((unhide HA2).later hb); have HR3 := hide ((unhide HR2).later hb); have HX3 := hide ((unhide HX2).later hb); have HB3 := hide ((unhide HB2).trans (hb.mono (unhide HB2).size))
  clear hb
  refine hK _ _ ⟨unhide HSS _ (unhide HA3) (unhide HX3), trivial⟩ ?_
  clear hK K
  refine wpR_op (i := 8) (o := _) (by kernel_rfl) rfl rfl (fun K hK => ?_)
  go_simp
  refine (zero_of _ (unhide HTA _ (unhide HB3))).mono ?_
  rintro e U8 ⟨rfl, hb⟩
  have HA4 := hide ((unhide HA3).later hb); have HR4 := hide ((unhide HR3).later hb); have HX4 := hide ((unhide HX3).later hb); have HB4 := hide ((unhide HB3).trans (hb.mono (unhide HB3).size))
  clear hb
  refine hK _ _ ⟨unhide HSS _ (unhide HA4) (unhide HX4), trivial⟩ ?_
  clear hK K
  refine wpR_op (i := 11) (o := _) (by kernel_rfl) rfl rfl (fun K hK => ?_)
  go_simp
  refine hK _ _ ⟨unhide HSS _ (unhide HA4) (unhide HX4), trivial⟩ ?_
  clear hK K
  refine wpR_late (i := 12) (o := _) (by kernel_rfl) rfl rfl (by kernel_rfl) (fun K hK => ?_)
  refine wp_store_row 30 (.tmp 2) (.tmp 18) rfl (w.heap.size + 1) #[.string ⟨#[107, 101, 108, 118, 105, 110]⟩, .string ⟨#[75]⟩, .int .i64 0, .int .i64 0, .int .i64 0, .int .i64 0, .int .i64 1, .int .i64 0, .int .i64 0, .int .i64 0, .string ⟨#[49]⟩, .string ⟨#[49]⟩, .string ⟨#[48]⟩, .string ⟨#[49]⟩, .int .i64 1] rfl rfl 30 _ (unhide HR4) (by rw [info27]; rfl) rfl (by kernel_rfl) (hK _ _ trivial ?_)
  clear hK K
  refine wpR_done (by kernel_rfl) ?_
  go_wp2_with fail
  exact bodyPost_ret (v := .agg #[.string ⟨#[107, 101, 108, 118, 105, 110]⟩, .string ⟨#[75]⟩, .int .i64 0, .int .i64 0, .int .i64 0, .int .i64 0, .int .i64 1, .int .i64 0, .int .i64 0, .int .i64 0, .string ⟨#[49]⟩, .string ⟨#[49]⟩, .string ⟨#[48]⟩, .string ⟨#[49]⟩, .int .i64 1]) (res27 Tryz.results11 _ _ (w.heap.size + 1) _ rfl rfl ((unhide HR4).setRow _)) rfl ⟨rfl, below_setRow (unhide HB4) (by omega) _⟩
end Go.Proofs.YtbjafaojcaafmaaGreatDoor
