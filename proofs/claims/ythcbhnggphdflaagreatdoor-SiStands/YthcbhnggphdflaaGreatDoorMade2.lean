/- candela and kelvin. -/
import Derived.Test.YthcbhnggphdflaaGreatDoorLimb2
import Derived.Test.YthcbhnggphdflaaGreatDoorJoule
namespace Go.Proofs.YthcbhnggphdflaaGreatDoor
open Go.RowKit
set_option maxRecDepth 100000 in
set_option maxHeartbeats 4000000 in
theorem kelvin_made (w : World) : Calls Tryz.prog 62 #[] w fun r w' => r = .returned (.agg #[I 0, I 0, I 0, I 0, I 1, I 0, I 0, I 0, I 1000, I 1000]) ∧ Below w.heap.size w w' := by
 obtain ⟨V, hV⟩ : ∃ V, V = w.alloc (.cells #[I 0, I 0, I 0, I 0, I 0, I 0, I 0, I 0, I 0, I 0] 112) := ⟨_, rfl⟩
 have HR : Hid (OwnU V w.heap.size 112 #[I 0, I 0, I 0, I 0, I 0, I 0, I 0, I 0, I 0, I 0]) := by rw [hV]; exact OwnU.new _ _ _
 have HB : Hid (Below w.heap.size w V) := by rw [hV]; exact (Below.refl _ _).alloc (Nat.le_refl _) _
 have HV := hide hV
 clear hV
 go_enter Tryz.func62, Tryz.ntmps62
 go_upto_region 1 with fail
 rw [← un HV]
 clear HV
 go_wp2_with fail
 refine (metre_made _).mono ?_
 rintro e W ⟨rfl, hb⟩
 have HR1 := hide ((un HR).later hb); have HB1 := hide ((un HB).trans (hb.mono (un HB).size))
 clear HR HB hb
 have HR := HR1; have HB := HB1
 clear HR1 HB1
 go_wp2_with fail
 refine (gram_made _).mono ?_
 rintro e W ⟨rfl, hb⟩
 have HR1 := hide ((un HR).later hb); have HB1 := hide ((un HB).trans (hb.mono (un HB).size))
 clear HR HB hb
 have HR := HR1; have HB := HB1
 clear HR1 HB1
 go_wp2_with fail
 refine (second_made _).mono ?_
 rintro e W ⟨rfl, hb⟩
 have HR1 := hide ((un HR).later hb); have HB1 := hide ((un HB).trans (hb.mono (un HB).size))
 clear HR HB hb
 have HR := HR1; have HB := HB1
 clear HR1 HB1
 go_wp2_with fail
 refine (joule_made _).mono ?_
 rintro e W ⟨rfl, hb⟩
 have HR1 := hide ((un HR).later hb); have HB1 := hide ((un HB).trans (hb.mono (un HB).size))
 clear HR HB hb
 have HR := HR1; have HB := HB1
 clear HR1 HB1
 go_upto_region 2 with fail
 have HX : Hid (OwnU (W.alloc (.cells #[I 2, I 1, I (-2), I 0, I 0, I 0, I 0, I 0, I 1000, I 1000] 112)) W.heap.size 112 #[I 2, I 1, I (-2), I 0, I 0, I 0, I 0, I 0, I 1000, I 1000] ∧ Below W.heap.size W (W.alloc (.cells #[I 2, I 1, I (-2), I 0, I 0, I 0, I 0, I 0, I 1000, I 1000] 112))) := ⟨OwnU.new _ _ _, (Below.refl _ _).alloc (Nat.le_refl _) _⟩
 obtain ⟨g1, hg1⟩ : ∃ g1, g1 = W.heap.size := ⟨_, rfl⟩
 obtain ⟨U, hU⟩ : ∃ U, U = W.alloc (.cells #[I 2, I 1, I (-2), I 0, I 0, I 0, I 0, I 0, I 1000, I 1000] 112) := ⟨_, rfl⟩
 rw [← hU] at HX ⊢
 rw [← hg1] at HX ⊢
 have hne : ¬ g1 = w.heap.size := by have := (un HR).lt; omega
 have HR1 := hide ((un HR).later (by rw [← hg1]; exact (un HX).2)); have HB1 := hide ((un HB).trans (Below.mono (by rw [← hg1]; exact (un HX).2 : Below W.heap.size W U) (un HB).size))
 have HQ := hide (un HX).1
 clear HX HR HB hU hg1
 have HBD : Hid (Below U.heap.size U U.drew) := (Below.refl _ _).drew
 have HSS : Hid (∀ W', OwnU W' g1 112 #[I 2, I 1, I (-2), I 0, I 0, I 0, I 0, I 0, I 1000, I 1000] → W'.cell? ⟨g1, 0, none⟩ = some (I 2) ∧ W'.cell? ⟨g1, 1, none⟩ = some (I 1) ∧ W'.cell? ⟨g1, 2, none⟩ = some (I (-2)) ∧ W'.cell? ⟨g1, 3, none⟩ = some (I 0) ∧ W'.cell? ⟨g1, 4, none⟩ = some (I 0) ∧ W'.cell? ⟨g1, 5, none⟩ = some (I 0) ∧ W'.cell? ⟨g1, 6, none⟩ = some (I 0) ∧ W'.cell? ⟨g1, 7, none⟩ = some (I 0) ∧ W'.cell? ⟨g1, 8, none⟩ = some (I 1000) ∧ W'.cell? ⟨g1, 9, none⟩ = some (I 1000)) := fun W' h => ⟨h.ub.c 0 _ rfl, h.ub.c 1 _ rfl, h.ub.c 2 _ rfl, h.ub.c 3 _ rfl, h.ub.c 4 _ rfl, h.ub.c 5 _ rfl, h.ub.c 6 _ rfl, h.ub.c 7 _ rfl, h.ub.c 8 _ rfl, h.ub.c 9 _ rfl⟩
 have HR2 := hide ((un HR1).later (un HBD)); have HQ2 := hide ((un HQ).later (un HBD)); have HB2 := hide ((un HB1).trans ((un HBD).mono (un HB1).size))
 clear HR1 HQ HB1
 have HS0 := hide (un HSS _ (un HQ2))
 refine region_reads 4 (fun W' => W'.cell? ⟨g1, 0, none⟩ = some (I 2) ∧ W'.cell? ⟨g1, 1, none⟩ = some (I 1) ∧ W'.cell? ⟨g1, 2, none⟩ = some (I (-2)) ∧ W'.cell? ⟨g1, 3, none⟩ = some (I 0) ∧ W'.cell? ⟨g1, 4, none⟩ = some (I 0) ∧ W'.cell? ⟨g1, 5, none⟩ = some (I 0) ∧ W'.cell? ⟨g1, 6, none⟩ = some (I 0) ∧ W'.cell? ⟨g1, 7, none⟩ = some (I 0) ∧ W'.cell? ⟨g1, 8, none⟩ = some (I 1000) ∧ W'.cell? ⟨g1, 9, none⟩ = some (I 1000)) (fun _ => True) 5 rfl (by kernel_rfl) ?_
 refine wpR_take (i := 0) (oi := _) (v := .agg #[I 2, I 1, I (-2), I 0, I 0, I 0, I 0, I 0, I 1000, I 1000]) rfl (by kernel_rfl) (by kernel_rfl) (by kernel_rfl) (by kernel_rfl) (fun _ _ _ h => h) (Or.inl ⟨by rfl, ?_⟩) ⟨un HS0, trivial⟩ ?_
 ·intro W' hW
  go_split_ands
  go_simp
 clear HBD HS0
 generalize U.drew = U0 at *
 refine wpR_op (i := 1) (o := _) (by kernel_rfl) rfl rfl (fun K hK => ?_)
 go_simp
 refine hK _ _ ⟨un HSS _ (un HQ2), trivial⟩ ?_
 clear hK K
 refine wpR_op (i := 2) (o := _) (by kernel_rfl) rfl rfl (fun K hK => ?_)
 go_simp
 refine (fixed_any 2 1 (-2) 0 (-1) 0 0 0 _).mono ?_
 rintro e U1 ⟨rfl, hb⟩
 have HR3 := hide ((un HR2).later hb); have HQ3 := hide ((un HQ2).later hb); have HB3 := hide ((un HB2).trans (hb.mono (un HB2).size))
 clear hb HR2 HQ2 HB2
 refine hK _ _ ⟨un HSS _ (un HQ3), trivial⟩ ?_
 clear hK K
 refine wpR_op (i := 3) (o := _) (by kernel_rfl) rfl rfl (fun K hK => ?_)
 go_simp
 refine (by_of 2 1 (-2) 0 0 0 0 0 1000 1000 2 1 (-2) 0 (-1) 0 0 0 1 1 0 0 0 0 1 0 0 0 1000 1000 _ (by decide +kernel) (by decide +kernel) (by decide +kernel)).mono ?_
 rintro e U2 ⟨rfl, hb⟩
 have HR4 := hide ((un HR3).later hb); have HQ4 := hide ((un HQ3).later hb); have HB4 := hide ((un HB3).trans (hb.mono (un HB3).size))
 clear hb HR3 HQ3 HB3
 refine hK _ _ ⟨un HSS _ (un HQ4), trivial⟩ ?_
 clear hK K
 refine wpR_late (i := 4) (o := _) (by kernel_rfl) rfl rfl (by kernel_rfl) (fun K hK => ?_)
 refine wp_store_row 112 (.tmp 0) (.tmp 9) rfl w.heap.size #[I 0, I 0, I 0, I 0, I 1, I 0, I 0, I 0, I 1000, I 1000] rfl rfl 112 _ (un HR4) (by rw [info43]; rfl) rfl (by kernel_rfl) (hK _ _ trivial ?_)
 clear hK K
 refine wpR_done (by kernel_rfl) ?_
 go_wp2_with fail
 exact bodyPost_ret (v := .agg #[I 0, I 0, I 0, I 0, I 1, I 0, I 0, I 0, I 1000, I 1000]) (res43 Tryz.results62 _ _ w.heap.size _ rfl rfl ((un HR4).setRow _)) rfl ⟨rfl, below_setRow (un HB4) (Nat.le_refl _) _⟩
set_option maxRecDepth 100000 in
set_option maxHeartbeats 4000000 in
theorem candela_made (w : World) : Calls Tryz.prog 61 #[] w fun r w' => r = .returned (.agg #[I 0, I 0, I 0, I 0, I 0, I 0, I 1, I 0, I 1000, I 1000]) ∧ Below w.heap.size w w' := by
 obtain ⟨V, hV⟩ : ∃ V, V = w.alloc (.cells #[I 0, I 0, I 0, I 0, I 0, I 0, I 0, I 0, I 0, I 0] 112) := ⟨_, rfl⟩
 have HR : Hid (OwnU V w.heap.size 112 #[I 0, I 0, I 0, I 0, I 0, I 0, I 0, I 0, I 0, I 0]) := by rw [hV]; exact OwnU.new _ _ _
 have HB : Hid (Below w.heap.size w V) := by rw [hV]; exact (Below.refl _ _).alloc (Nat.le_refl _) _
 have HV := hide hV
 clear hV
 go_enter Tryz.func61, Tryz.ntmps61
 go_upto_region 1 with fail
 rw [← un HV]
 clear HV
 go_wp2_with fail
 refine (metre_made _).mono ?_
 rintro e W ⟨rfl, hb⟩
 have HR1 := hide ((un HR).later hb); have HB1 := hide ((un HB).trans (hb.mono (un HB).size))
 clear HR HB hb
 have HR := HR1; have HB := HB1
 clear HR1 HB1
 go_wp2_with fail
 refine (gram_made _).mono ?_
 rintro e W ⟨rfl, hb⟩
 have HR1 := hide ((un HR).later hb); have HB1 := hide ((un HB).trans (hb.mono (un HB).size))
 clear HR HB hb
 have HR := HR1; have HB := HB1
 clear HR1 HB1
 go_wp2_with fail
 refine (second_made _).mono ?_
 rintro e W ⟨rfl, hb⟩
 have HR1 := hide ((un HR).later hb); have HB1 := hide ((un HB).trans (hb.mono (un HB).size))
 clear HR HB hb
 have HR := HR1; have HB := HB1
 clear HR1 HB1
 go_wp2_with fail
 refine (joule_made _).mono ?_
 rintro e W ⟨rfl, hb⟩
 have HR1 := hide ((un HR).later hb); have HB1 := hide ((un HB).trans (hb.mono (un HB).size))
 clear HR HB hb
 have HR := HR1; have HB := HB1
 clear HR1 HB1
 go_wp2_with fail
 refine (second_made _).mono ?_
 rintro e W ⟨rfl, hb⟩
 have HR1 := hide ((un HR).later hb); have HB1 := hide ((un HB).trans (hb.mono (un HB).size))
 clear HR HB hb
 have HR := HR1; have HB := HB1
 clear HR1 HB1
 go_wp2_with fail
 refine (by_of 2 1 (-2) 0 0 0 0 0 1000 1000 0 0 1 0 0 0 0 0 1 1 2 1 (-3) 0 0 0 0 0 1000 1000 _ (by decide +kernel) (by decide +kernel) (by decide +kernel)).mono ?_
 rintro e W ⟨rfl, hb⟩
 have HR1 := hide ((un HR).later hb); have HB1 := hide ((un HB).trans (hb.mono (un HB).size))
 clear HR HB hb
 have HR := HR1; have HB := HB1
 clear HR1 HB1
 go_upto_region 2 with fail
 have HX : Hid (OwnU (W.alloc (.cells #[I 2, I 1, I (-3), I 0, I 0, I 0, I 0, I 0, I 1000, I 1000] 112)) W.heap.size 112 #[I 2, I 1, I (-3), I 0, I 0, I 0, I 0, I 0, I 1000, I 1000] ∧ Below W.heap.size W (W.alloc (.cells #[I 2, I 1, I (-3), I 0, I 0, I 0, I 0, I 0, I 1000, I 1000] 112))) := ⟨OwnU.new _ _ _, (Below.refl _ _).alloc (Nat.le_refl _) _⟩
 obtain ⟨g1, hg1⟩ : ∃ g1, g1 = W.heap.size := ⟨_, rfl⟩
 obtain ⟨U, hU⟩ : ∃ U, U = W.alloc (.cells #[I 2, I 1, I (-3), I 0, I 0, I 0, I 0, I 0, I 1000, I 1000] 112) := ⟨_, rfl⟩
 rw [← hU] at HX ⊢
 rw [← hg1] at HX ⊢
 have hne : ¬ g1 = w.heap.size := by have := (un HR).lt; omega
 have HR1 := hide ((un HR).later (by rw [← hg1]; exact (un HX).2)); have HB1 := hide ((un HB).trans (Below.mono (by rw [← hg1]; exact (un HX).2 : Below W.heap.size W U) (un HB).size))
 have HQ := hide (un HX).1
 clear HX HR HB hU hg1
 have HBD : Hid (Below U.heap.size U U.drew) := (Below.refl _ _).drew
 have HSS : Hid (∀ W', OwnU W' g1 112 #[I 2, I 1, I (-3), I 0, I 0, I 0, I 0, I 0, I 1000, I 1000] → W'.cell? ⟨g1, 0, none⟩ = some (I 2) ∧ W'.cell? ⟨g1, 1, none⟩ = some (I 1) ∧ W'.cell? ⟨g1, 2, none⟩ = some (I (-3)) ∧ W'.cell? ⟨g1, 3, none⟩ = some (I 0) ∧ W'.cell? ⟨g1, 4, none⟩ = some (I 0) ∧ W'.cell? ⟨g1, 5, none⟩ = some (I 0) ∧ W'.cell? ⟨g1, 6, none⟩ = some (I 0) ∧ W'.cell? ⟨g1, 7, none⟩ = some (I 0) ∧ W'.cell? ⟨g1, 8, none⟩ = some (I 1000) ∧ W'.cell? ⟨g1, 9, none⟩ = some (I 1000)) := fun W' h => ⟨h.ub.c 0 _ rfl, h.ub.c 1 _ rfl, h.ub.c 2 _ rfl, h.ub.c 3 _ rfl, h.ub.c 4 _ rfl, h.ub.c 5 _ rfl, h.ub.c 6 _ rfl, h.ub.c 7 _ rfl, h.ub.c 8 _ rfl, h.ub.c 9 _ rfl⟩
 have HR2 := hide ((un HR1).later (un HBD)); have HQ2 := hide ((un HQ).later (un HBD)); have HB2 := hide ((un HB1).trans ((un HBD).mono (un HB1).size))
 clear HR1 HQ HB1
 have HS0 := hide (un HSS _ (un HQ2))
 refine region_reads 4 (fun W' => W'.cell? ⟨g1, 0, none⟩ = some (I 2) ∧ W'.cell? ⟨g1, 1, none⟩ = some (I 1) ∧ W'.cell? ⟨g1, 2, none⟩ = some (I (-3)) ∧ W'.cell? ⟨g1, 3, none⟩ = some (I 0) ∧ W'.cell? ⟨g1, 4, none⟩ = some (I 0) ∧ W'.cell? ⟨g1, 5, none⟩ = some (I 0) ∧ W'.cell? ⟨g1, 6, none⟩ = some (I 0) ∧ W'.cell? ⟨g1, 7, none⟩ = some (I 0) ∧ W'.cell? ⟨g1, 8, none⟩ = some (I 1000) ∧ W'.cell? ⟨g1, 9, none⟩ = some (I 1000)) (fun _ => True) 5 rfl (by kernel_rfl) ?_
 refine wpR_take (i := 2) (oi := _) (v := .agg #[I 2, I 1, I (-3), I 0, I 0, I 0, I 0, I 0, I 1000, I 1000]) rfl (by kernel_rfl) (by kernel_rfl) (by kernel_rfl) (by kernel_rfl) (fun _ _ _ h => h) (Or.inl ⟨by rfl, ?_⟩) ⟨un HS0, trivial⟩ ?_
 ·intro W' hW
  go_split_ands
  go_simp
 clear HBD HS0
 generalize U.drew = U0 at *
 refine wpR_op (i := 0) (o := _) (by kernel_rfl) rfl rfl (fun K hK => ?_)
 go_simp
 refine hK _ _ ⟨un HSS _ (un HQ2), trivial⟩ ?_
 clear hK K
 refine wpR_op (i := 1) (o := _) (by kernel_rfl) rfl rfl (fun K hK => ?_)
 go_simp
 refine (fixed_any (-2) (-1) 3 0 0 0 1 0 _).mono ?_
 rintro e U1 ⟨rfl, hb⟩
 have HR3 := hide ((un HR2).later hb); have HQ3 := hide ((un HQ2).later hb); have HB3 := hide ((un HB2).trans (hb.mono (un HB2).size))
 clear hb HR2 HQ2 HB2
 refine hK _ _ ⟨un HSS _ (un HQ3), trivial⟩ ?_
 clear hK K
 refine wpR_op (i := 3) (o := _) (by kernel_rfl) rfl rfl (fun K hK => ?_)
 go_simp
 refine (times_of (-2) (-1) 3 0 0 0 1 0 1 1 2 1 (-3) 0 0 0 0 0 1000 1000 0 0 0 0 0 0 1 0 1000 1000 _ (by decide +kernel) (by decide +kernel) (by decide +kernel)).mono ?_
 rintro e U2 ⟨rfl, hb⟩
 have HR4 := hide ((un HR3).later hb); have HQ4 := hide ((un HQ3).later hb); have HB4 := hide ((un HB3).trans (hb.mono (un HB3).size))
 clear hb HR3 HQ3 HB3
 refine hK _ _ ⟨un HSS _ (un HQ4), trivial⟩ ?_
 clear hK K
 refine wpR_late (i := 4) (o := _) (by kernel_rfl) rfl rfl (by kernel_rfl) (fun K hK => ?_)
 refine wp_store_row 112 (.tmp 0) (.tmp 11) rfl w.heap.size #[I 0, I 0, I 0, I 0, I 0, I 0, I 1, I 0, I 1000, I 1000] rfl rfl 112 _ (un HR4) (by rw [info43]; rfl) rfl (by kernel_rfl) (hK _ _ trivial ?_)
 clear hK K
 refine wpR_done (by kernel_rfl) ?_
 go_wp2_with fail
 exact bodyPost_ret (v := .agg #[I 0, I 0, I 0, I 0, I 0, I 0, I 1, I 0, I 1000, I 1000]) (res43 Tryz.results61 _ _ w.heap.size _ rfl rfl ((un HR4).setRow _)) rfl ⟨rfl, below_setRow (un HB4) (Nat.le_refl _) _⟩
end Go.Proofs.YthcbhnggphdflaaGreatDoor
