/- unit.told (23). -/
import Derived.Test.YthcbhnggphdflaaGreatDoorSiF
namespace Go.Proofs.YthcbhnggphdflaaGreatDoor
open Go.RowKit
set_option maxRecDepth 100000 in
set_option maxHeartbeats 4000000 in
theorem told_walk (ev : Nat → Int) (n d tk : Int) (nm sy fn fd : ByteArray) (w : World)
    (hdi : ∀ W, Below w.heap.size w W → Calls Tryz.prog 50 #[.agg #[.int .i64 (ev 0), .int .i64 (ev 1), .int .i64 (ev 2), .int .i64 (ev 3), .int .i64 (ev 4), .int .i64 (ev 5), .int .i64 (ev 6), .int .i64 (ev 7), .int .i64 n, .int .i64 d], .agg partsA] W fun r w' => r = .returned (.agg #[.int .i64 (ev 0), .int .i64 (ev 1), .int .i64 (ev 2), .int .i64 (ev 3), .int .i64 (ev 4), .int .i64 (ev 5), .int .i64 (ev 6), .int .i64 (ev 7)]) ∧ Below W.heap.size W w')
    (hfa : ∀ W, Below w.heap.size w W → Calls Tryz.prog 51 #[.agg #[.int .i64 (ev 0), .int .i64 (ev 1), .int .i64 (ev 2), .int .i64 (ev 3), .int .i64 (ev 4), .int .i64 (ev 5), .int .i64 (ev 6), .int .i64 (ev 7), .int .i64 n, .int .i64 d], .agg partsA] W fun r w' => r = .returned (.agg #[.string fn, .string fd]) ∧ Below W.heap.size W w')
    (hze : ∀ W, Below w.heap.size w W → Calls Tryz.prog 52 #[.int .i64 0] W fun r w' => r = .returned (.agg #[.string ⟨#[48]⟩, .string ⟨#[49]⟩]) ∧ Below W.heap.size W w') :
    Calls Tryz.prog 23 #[.agg #[.string nm, .string sy, .int .i64 tk, .int .i64 (ev 0), .int .i64 (ev 1), .int .i64 (ev 2), .int .i64 (ev 3), .int .i64 (ev 4), .int .i64 (ev 5), .int .i64 (ev 6), .int .i64 (ev 7), .int .i64 n, .int .i64 d], .agg partsA] w fun r w' => r = .returned (.agg #[.string nm, .string sy, .int .i64 (ev 0), .int .i64 (ev 1), .int .i64 (ev 2), .int .i64 (ev 3), .int .i64 (ev 4), .int .i64 (ev 5), .int .i64 (ev 6), .int .i64 (ev 7), .string fn, .string fd, .string ⟨#[48]⟩, .string ⟨#[49]⟩, .int .i64 tk]) ∧ Below w.heap.size w w' := by
  obtain ⟨pL, hpL, HLN⟩ : ∃ pL : List Value, pL.toArray = partsA ∧ Hid (pL.length = 120) := ⟨partsA.toList, by simp, by show _ = _; rw [Array.length_toList]; exact partsA_size⟩
  rw [← hpL] at hdi hfa ⊢
  clear hpL
  obtain ⟨V, hV⟩ : ∃ V, V = ((w.alloc (.cells #[.string nm, .string sy, .int .i64 tk, .int .i64 (ev 0), .int .i64 (ev 1), .int .i64 (ev 2), .int .i64 (ev 3), .int .i64 (ev 4), .int .i64 (ev 5), .int .i64 (ev 6), .int .i64 (ev 7), .int .i64 n, .int .i64 d] 57)).alloc (.cells pL.toArray 48)).alloc (.cells z15 30) := ⟨_, rfl⟩
  have HB0 : Hid (Below w.heap.size w V) := by rw [hV]; exact (((Below.refl _ _).alloc (Nat.le_refl _) _).alloc (by simp) _).alloc (by simp; omega) _
  have HA0 : Hid (OwnU V w.heap.size 57 #[.string nm, .string sy, .int .i64 tk, .int .i64 (ev 0), .int .i64 (ev 1), .int .i64 (ev 2), .int .i64 (ev 3), .int .i64 (ev 4), .int .i64 (ev 5), .int .i64 (ev 6), .int .i64 (ev 7), .int .i64 n, .int .i64 d]) := by rw [hV]; exact ((OwnU.new _ _ _).alloc _).alloc _
  have HO0 : Hid (OwnU V (w.heap.size + 1) 48 pL.toArray) := by rw [hV]; have h := OwnU.new (w.alloc (.cells #[.string nm, .string sy, .int .i64 tk, .int .i64 (ev 0), .int .i64 (ev 1), .int .i64 (ev 2), .int .i64 (ev 3), .int .i64 (ev 4), .int .i64 (ev 5), .int .i64 (ev 6), .int .i64 (ev 7), .int .i64 n, .int .i64 d] 57)) pL.toArray 48; rw [Dm.size_alloc] at h; exact h.alloc _
  have HR0 : Hid (OwnU V (w.heap.size + 1 + 1) 30 z15) := by rw [hV]; have h := OwnU.new ((w.alloc (.cells #[.string nm, .string sy, .int .i64 tk, .int .i64 (ev 0), .int .i64 (ev 1), .int .i64 (ev 2), .int .i64 (ev 3), .int .i64 (ev 4), .int .i64 (ev 5), .int .i64 (ev 6), .int .i64 (ev 7), .int .i64 n, .int .i64 d] 57)).alloc (.cells pL.toArray 48)) z15 30; rw [Dm.size_alloc, Dm.size_alloc] at h; exact h
  have HDI := hide hdi; have HFA := hide hfa; have HZE := hide hze
  have HSS : Hid (∀ W' : World, OwnU W' w.heap.size 57 #[.string nm, .string sy, .int .i64 tk, .int .i64 (ev 0), .int .i64 (ev 1), .int .i64 (ev 2), .int .i64 (ev 3), .int .i64 (ev 4), .int .i64 (ev 5), .int .i64 (ev 6), .int .i64 (ev 7), .int .i64 n, .int .i64 d] → OwnU W' (w.heap.size + 1) 48 pL.toArray → W'.cell? ⟨w.heap.size, 0, none⟩ = some (.string nm) ∧ W'.cell? ⟨w.heap.size, 1, none⟩ = some (.string sy) ∧ W'.cell? ⟨w.heap.size, 2, none⟩ = some (.int .i64 tk) ∧ W'.cell? ⟨w.heap.size, 3, none⟩ = some (.int .i64 (ev 0)) ∧ W'.cell? ⟨w.heap.size, 4, none⟩ = some (.int .i64 (ev 1)) ∧ W'.cell? ⟨w.heap.size, 5, none⟩ = some (.int .i64 (ev 2)) ∧ W'.cell? ⟨w.heap.size, 6, none⟩ = some (.int .i64 (ev 3)) ∧ W'.cell? ⟨w.heap.size, 7, none⟩ = some (.int .i64 (ev 4)) ∧ W'.cell? ⟨w.heap.size, 8, none⟩ = some (.int .i64 (ev 5)) ∧ W'.cell? ⟨w.heap.size, 9, none⟩ = some (.int .i64 (ev 6)) ∧ W'.cell? ⟨w.heap.size, 10, none⟩ = some (.int .i64 (ev 7)) ∧ W'.cell? ⟨w.heap.size, 11, none⟩ = some (.int .i64 n) ∧ W'.cell? ⟨w.heap.size, 12, none⟩ = some (.int .i64 d) ∧ W'.rangeAt (w.heap.size + 1) 0 pL) := fun W' h1 h2 => ⟨h1.ub.c 0 _ rfl, h1.ub.c 1 _ rfl, h1.ub.c 2 _ rfl, h1.ub.c 3 _ rfl, h1.ub.c 4 _ rfl, h1.ub.c 5 _ rfl, h1.ub.c 6 _ rfl, h1.ub.c 7 _ rfl, h1.ub.c 8 _ rfl, h1.ub.c 9 _ rfl, h1.ub.c 10 _ rfl, h1.ub.c 11 _ rfl, h1.ub.c 12 _ rfl, h2.mid 0 pL (fun j v h => by simpa using h)⟩
  have HV := hide hV
  clear hV hdi hfa hze
  go_enter Tryz.func23, Tryz.ntmps23
  go_upto_region 1 with fail
  rw [← un HV]
  clear HV
  have HA1 : Hid (OwnU V.drew w.heap.size 57 #[.string nm, .string sy, .int .i64 tk, .int .i64 (ev 0), .int .i64 (ev 1), .int .i64 (ev 2), .int .i64 (ev 3), .int .i64 (ev 4), .int .i64 (ev 5), .int .i64 (ev 6), .int .i64 (ev 7), .int .i64 n, .int .i64 d]) := un HA0
  have HO1 : Hid (OwnU V.drew (w.heap.size + 1) 48 pL.toArray) := un HO0
  have HR1 : Hid (OwnU V.drew (w.heap.size + 1 + 1) 30 z15) := un HR0
  have HB1 : Hid (Below w.heap.size w V.drew) := (un HB0).drew
  clear HA0 HO0 HR0 HB0
  have HS0 := hide (un HSS _ (un HA1) (un HO1))
  refine region_reads 19 (fun _ => True) (fun W' => W'.cell? ⟨w.heap.size, 0, none⟩ = some (.string nm) ∧ W'.cell? ⟨w.heap.size, 1, none⟩ = some (.string sy) ∧ W'.cell? ⟨w.heap.size, 2, none⟩ = some (.int .i64 tk) ∧ W'.cell? ⟨w.heap.size, 3, none⟩ = some (.int .i64 (ev 0)) ∧ W'.cell? ⟨w.heap.size, 4, none⟩ = some (.int .i64 (ev 1)) ∧ W'.cell? ⟨w.heap.size, 5, none⟩ = some (.int .i64 (ev 2)) ∧ W'.cell? ⟨w.heap.size, 6, none⟩ = some (.int .i64 (ev 3)) ∧ W'.cell? ⟨w.heap.size, 7, none⟩ = some (.int .i64 (ev 4)) ∧ W'.cell? ⟨w.heap.size, 8, none⟩ = some (.int .i64 (ev 5)) ∧ W'.cell? ⟨w.heap.size, 9, none⟩ = some (.int .i64 (ev 6)) ∧ W'.cell? ⟨w.heap.size, 10, none⟩ = some (.int .i64 (ev 7)) ∧ W'.cell? ⟨w.heap.size, 11, none⟩ = some (.int .i64 n) ∧ W'.cell? ⟨w.heap.size, 12, none⟩ = some (.int .i64 d) ∧ W'.rangeAt (w.heap.size + 1) 0 pL) 20 rfl (by kernel_rfl) ?_
  generalize V.drew = U1 at *
  refine wpR_take7 (i := 0) (oi := _) (v := .pointer (some ⟨w.heap.size, 0, none⟩)) rfl (by kernel_rfl) (by kernel_rfl) (by kernel_rfl) (by kernel_rfl) (fun _ _ _ h => h) (Or.inl ⟨by rfl, ?_⟩) ⟨trivial, un HS0⟩ ?_
  · intro W' hW
    go_split_ands
    go_simp
  refine wpR_take7 (i := 1) (oi := _) (v := .pointer (some ⟨w.heap.size, 0, none⟩)) rfl (by kernel_rfl) (by kernel_rfl) (by kernel_rfl) (by kernel_rfl) (fun _ _ _ h => h) (Or.inl ⟨by rfl, ?_⟩) ⟨trivial, un HS0⟩ ?_
  · intro W' hW
    go_split_ands
    go_simp
  refine wpR_take7 (i := 2) (oi := _) (v := .string nm) rfl (by kernel_rfl) (by kernel_rfl) (by kernel_rfl) (by kernel_rfl) (fun _ _ _ h => h) (Or.inl ⟨by rfl, ?_⟩) ⟨trivial, un HS0⟩ ?_
  · intro W' hW
    go_split_ands
    go_simp
  refine wpR_take7 (i := 3) (oi := _) (v := .pointer (some ⟨w.heap.size, 0, none⟩)) rfl (by kernel_rfl) (by kernel_rfl) (by kernel_rfl) (by kernel_rfl) (fun _ _ _ h => h) (Or.inl ⟨by rfl, ?_⟩) ⟨trivial, un HS0⟩ ?_
  · intro W' hW
    go_split_ands
    go_simp
  refine wpR_take7 (i := 4) (oi := _) (v := .pointer (some ⟨w.heap.size, 1, none⟩)) rfl (by kernel_rfl) (by kernel_rfl) (by kernel_rfl) (by kernel_rfl) (fun _ _ _ h => h) (Or.inl ⟨by rfl, ?_⟩) ⟨trivial, un HS0⟩ ?_
  · intro W' hW
    go_split_ands
    go_simp
  refine wpR_take7 (i := 5) (oi := _) (v := .string sy) rfl (by kernel_rfl) (by kernel_rfl) (by kernel_rfl) (by kernel_rfl) (fun _ _ _ h => h) (Or.inl ⟨by rfl, ?_⟩) ⟨trivial, un HS0⟩ ?_
  · intro W' hW
    go_split_ands
    go_simp
  refine wpR_take7 (i := 6) (oi := _) (v := .pointer (some ⟨w.heap.size, 3, none⟩)) rfl (by kernel_rfl) (by kernel_rfl) (by kernel_rfl) (by kernel_rfl) (fun _ _ _ h => h) (Or.inl ⟨by rfl, ?_⟩) ⟨trivial, un HS0⟩ ?_
  · intro W' hW
    go_split_ands
    go_simp
  refine wpR_take7 (i := 7) (oi := _) (v := .agg #[.int .i64 (ev 0), .int .i64 (ev 1), .int .i64 (ev 2), .int .i64 (ev 3), .int .i64 (ev 4), .int .i64 (ev 5), .int .i64 (ev 6), .int .i64 (ev 7), .int .i64 n, .int .i64 d]) rfl (by kernel_rfl) (by kernel_rfl) (by kernel_rfl) (by kernel_rfl) (fun _ _ _ h => h) (Or.inl ⟨by rfl, ?_⟩) ⟨trivial, un HS0⟩ ?_
  · intro W' hW
    go_split_ands
    go_simp
  refine wpR_take7 (i := 8) (oi := _) (v := .agg pL.toArray) rfl (by kernel_rfl) (by kernel_rfl) (by kernel_rfl) (by kernel_rfl) (fun _ _ _ h => h) ?_ ⟨trivial, un HS0⟩ ?_
  · refine yieldsIf_load_mid (by kernel_rfl) 48 (.tmp 3) (by kernel_rfl) (w.heap.size + 1) 0 (by kernel_rfl) pL _ (fun W' hW => hW.2.2.2.2.2.2.2.2.2.2.2.2.2) Tryz.underlying48 rfl (by rw [info48, un HLN])
  refine wpR_take7 (i := 10) (oi := _) (v := .pointer (some ⟨w.heap.size, 3, none⟩)) rfl (by kernel_rfl) (by kernel_rfl) (by kernel_rfl) (by kernel_rfl) (fun _ _ _ h => h) (Or.inl ⟨by rfl, ?_⟩) ⟨trivial, un HS0⟩ ?_
  · intro W' hW
    go_split_ands
    go_simp
  refine wpR_take7 (i := 11) (oi := _) (v := .agg #[.int .i64 (ev 0), .int .i64 (ev 1), .int .i64 (ev 2), .int .i64 (ev 3), .int .i64 (ev 4), .int .i64 (ev 5), .int .i64 (ev 6), .int .i64 (ev 7), .int .i64 n, .int .i64 d]) rfl (by kernel_rfl) (by kernel_rfl) (by kernel_rfl) (by kernel_rfl) (fun _ _ _ h => h) (Or.inl ⟨by rfl, ?_⟩) ⟨trivial, un HS0⟩ ?_
  · intro W' hW
    go_split_ands
    go_simp
  refine wpR_take7 (i := 12) (oi := _) (v := .agg pL.toArray) rfl (by kernel_rfl) (by kernel_rfl) (by kernel_rfl) (by kernel_rfl) (fun _ _ _ h => h) ?_ ⟨trivial, un HS0⟩ ?_
  · refine yieldsIf_load_mid (by kernel_rfl) 48 (.tmp 3) (by kernel_rfl) (w.heap.size + 1) 0 (by kernel_rfl) pL _ (fun W' hW => hW.2.2.2.2.2.2.2.2.2.2.2.2.2) Tryz.underlying48 rfl (by rw [info48, un HLN])
  refine wpR_take7 (i := 15) (oi := _) (v := .pointer (some ⟨w.heap.size, 0, none⟩)) rfl (by kernel_rfl) (by kernel_rfl) (by kernel_rfl) (by kernel_rfl) (fun _ _ _ h => h) (Or.inl ⟨by rfl, ?_⟩) ⟨trivial, un HS0⟩ ?_
  · intro W' hW
    go_split_ands
    go_simp
  refine wpR_take7 (i := 16) (oi := _) (v := .pointer (some ⟨w.heap.size, 2, none⟩)) rfl (by kernel_rfl) (by kernel_rfl) (by kernel_rfl) (by kernel_rfl) (fun _ _ _ h => h) (Or.inl ⟨by rfl, ?_⟩) ⟨trivial, un HS0⟩ ?_
  · intro W' hW
    go_split_ands
    go_simp
  refine wpR_take7 (i := 17) (oi := _) (v := .int .i64 tk) rfl (by kernel_rfl) (by kernel_rfl) (by kernel_rfl) (by kernel_rfl) (fun _ _ _ h => h) (Or.inl ⟨by rfl, ?_⟩) ⟨trivial, un HS0⟩ ?_
  · intro W' hW
    go_split_ands
    go_simp
  refine wpR_op (i := 9) (o := _) (by kernel_rfl) rfl rfl (fun K hK => ?_)
  go_simp
  refine (un HDI _ (un HB1)).mono ?_
  rintro e U2 ⟨rfl, hb⟩
  have HA2 := hide ((un HA1).later hb); have HO2 := hide ((un HO1).later hb); have HR2 := hide ((un HR1).later hb); have HB2 : Hid (Below w.heap.size w U2) := (un HB1).trans (hb.mono (un HB1).size)
  clear hb HA1 HO1 HR1 HB1
  refine hK _ _ ⟨trivial, un HSS _ (un HA2) (un HO2)⟩ ?_
  clear hK K
  refine wpR_op (i := 13) (o := _) (by kernel_rfl) rfl rfl (fun K hK => ?_)
  go_simp
  refine (un HFA _ (un HB2)).mono ?_
  rintro e U3 ⟨rfl, hb⟩
  have HA3 := hide ((un HA2).later hb); have HO3 := hide ((un HO2).later hb); have HR3 := hide ((un HR2).later hb); have HB3 : Hid (Below w.heap.size w U3) := (un HB2).trans (hb.mono (un HB2).size)
  clear hb HA2 HO2 HR2 HB2
  refine hK _ _ ⟨trivial, un HSS _ (un HA3) (un HO3)⟩ ?_
  clear hK K
  refine wpR_op (i := 14) (o := _) (by kernel_rfl) rfl rfl (fun K hK => ?_)
  go_simp
  refine (un HZE _ (un HB3)).mono ?_
  rintro e U4 ⟨rfl, hb⟩
  have HA4 := hide ((un HA3).later hb); have HO4 := hide ((un HO3).later hb); have HR4 := hide ((un HR3).later hb); have HB4 : Hid (Below w.heap.size w U4) := (un HB3).trans (hb.mono (un HB3).size)
  clear hb HA3 HO3 HR3 HB3
  refine hK _ _ ⟨trivial, un HSS _ (un HA4) (un HO4)⟩ ?_
  clear hK K
  refine wpR_op (i := 18) (o := _) (by kernel_rfl) rfl rfl (fun K hK => ?_)
  go_simp
  refine hK _ _ ⟨trivial, un HSS _ (un HA4) (un HO4)⟩ ?_
  clear hK K
  refine wpR_late (i := 19) (o := _) (by kernel_rfl) rfl rfl (by kernel_rfl) (fun K hK => ?_)
  refine wp_store_row 30 (.tmp 4) (.tmp 23) rfl (w.heap.size + 1 + 1) #[.string nm, .string sy, .int .i64 (ev 0), .int .i64 (ev 1), .int .i64 (ev 2), .int .i64 (ev 3), .int .i64 (ev 4), .int .i64 (ev 5), .int .i64 (ev 6), .int .i64 (ev 7), .string fn, .string fd, .string ⟨#[48]⟩, .string ⟨#[49]⟩, .int .i64 tk] (by kernel_rfl) (by kernel_rfl) 30 _ (un HR4) (by rw [info27]; rfl) rfl (by kernel_rfl) (hK _ _ (un HSS _ ((un HA4).otherRow (by omega)) ((un HO4).otherRow (by omega))) ?_)
  clear hK K
  refine wpR_done (by kernel_rfl) ?_
  go_wp2_with fail
  exact bodyPost_ret (v := .agg #[.string nm, .string sy, .int .i64 (ev 0), .int .i64 (ev 1), .int .i64 (ev 2), .int .i64 (ev 3), .int .i64 (ev 4), .int .i64 (ev 5), .int .i64 (ev 6), .int .i64 (ev 7), .string fn, .string fd, .string ⟨#[48]⟩, .string ⟨#[49]⟩, .int .i64 tk]) (res30 Tryz.results23 _ _ (w.heap.size + 1 + 1) _ rfl rfl ((un HR4).setRow _)) rfl ⟨rfl, below_setRow (un HB4) (by omega) _⟩
end Go.Proofs.YthcbhnggphdflaaGreatDoor
