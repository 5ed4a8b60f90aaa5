/- rat.Read where the texts are no right number. -/
import Derived.Test.YtdmecoleplpdbaaGreatDoorReads
import Derived.Deep.RegionHeld3
import Derived.Deep.Cut
import Derived.Test.YtdmecoleplpdbaaGreatDoorRead
namespace Go.Proofs.YtdmecoleplpdbaaGreatDoor
open Go.RowKit
/-- Four cells of a box. -/
structure T4 (W : World) (g : Nat) (a b c d : Value) : Prop where
  c0 : W.cell? ⟨g, 0, none⟩ = some a
  c1 : W.cell? ⟨g, 1, none⟩ = some b
  c2 : W.cell? ⟨g, 2, none⟩ = some c
  c3 : W.cell? ⟨g, 3, none⟩ = some d
  f0 : W.frozen? ⟨g, 0, none⟩ = false
  f1 : W.frozen? ⟨g, 1, none⟩ = false
  f2 : W.frozen? ⟨g, 2, none⟩ = false
  f3 : W.frozen? ⟨g, 3, none⟩ = false
theorem T4.lt {W : World} {g : Nat} {a b c d : Value} (h : T4 W g a b c d) : g < W.heap.size := World.block_lt_of_cell? _ _ h.c0
theorem T4.later {W V : World} {g : Nat} {a b c d : Value} (h : T4 W g a b c d) (hb : Below W.heap.size W V) : T4 V g a b c d :=
  ⟨(hb.cell (p := ⟨g, 0, none⟩) h.lt).trans h.c0, (hb.cell (p := ⟨g, 1, none⟩) h.lt).trans h.c1, (hb.cell (p := ⟨g, 2, none⟩) h.lt).trans h.c2, (hb.cell (p := ⟨g, 3, none⟩) h.lt).trans h.c3, (hb.frozen (p := ⟨g, 0, none⟩) h.lt).trans h.f0, (hb.frozen (p := ⟨g, 1, none⟩) h.lt).trans h.f1, (hb.frozen (p := ⟨g, 2, none⟩) h.lt).trans h.f2, (hb.frozen (p := ⟨g, 3, none⟩) h.lt).trans h.f3⟩
def store4 (W : World) (g : Nat) (a b c d : Value) : World := (((W.setCell ⟨g, 0, none⟩ a).setCell ⟨g, 1, none⟩ b).setCell ⟨g, 2, none⟩ c).setCell ⟨g, 3, none⟩ d
theorem T4.store {W : World} {g : Nat} {a b c d : Value} (h : T4 W g a b c d) (x y z t : Value) : T4 (store4 W g x y z t) g x y z t := by
  have c0 := h.c0; have c1 := h.c1; have c2 := h.c2; have c3 := h.c3; have f0 := h.f0; have f1 := h.f1; have f2 := h.f2; have f3 := h.f3
  unfold store4
  exact ⟨by simp [go_sem, *], by simp [go_sem, *], by simp [go_sem, *], by simp [go_sem, *], by simp [go_sem, *], by simp [go_sem, *], by simp [go_sem, *], by simp [go_sem, *]⟩
theorem below_store4 {B g : Nat} {w W : World} (h : Below B w W) (hg : B ≤ g) (a b c d : Value) : Below B w (store4 W g a b c d) :=
  (((h.setCell (p := ⟨g, 0, none⟩) hg a).setCell (p := ⟨g, 1, none⟩) hg b).setCell (p := ⟨g, 2, none⟩) hg c).setCell (p := ⟨g, 3, none⟩) hg d

set_option maxRecDepth 100000 in
set_option maxHeartbeats 2000000 in
theorem times_c (w : World) : Calls Tryz.prog 118 #[.agg #[.int .i64 1, .int .i64 1], .agg #[.int .i64 0, .int .i64 1]] w fun r w' => r = .returned (.agg #[.int .i64 0, .int .i64 1]) ∧ Below w.heap.size w w' := by
  go_enter Tryz.func118, Tryz.ntmps118
  go_wp2
  exact bodyPost_ret (v := .agg #[.int .i64 0, .int .i64 1]) (by simp [results, Tryz.results118, go_sem]) rfl ⟨rfl, (((Below.refl _ _).alloc (Nat.le_refl _) _).alloc (by simp) _).alloc (by simp; omega) _⟩

set_option maxRecDepth 100000 in
set_option maxHeartbeats 2000000 in
theorem times_r (w : World) : Calls Tryz.prog 118 #[.agg #[.int .i64 5, .int .i64 9], .agg #[.int .i64 32, .int .i64 1]] w fun r w' => r = .returned (.agg #[.int .i64 160, .int .i64 9]) ∧ Below w.heap.size w w' := by
  go_enter Tryz.func118, Tryz.ntmps118
  go_wp2
  exact bodyPost_ret (v := .agg #[.int .i64 160, .int .i64 9]) (by simp [results, Tryz.results118, go_sem]) rfl ⟨rfl, (((Below.refl _ _).alloc (Nat.le_refl _) _).alloc (by simp) _).alloc (by simp; omega) _⟩

set_option maxRecDepth 100000 in
set_option maxHeartbeats 2000000 in
theorem plus_c (w : World) : Calls Tryz.prog 119 #[.agg #[.int .i64 0, .int .i64 1], .agg #[.int .i64 27315, .int .i64 100]] w fun r w' => r = .returned (.agg #[.int .i64 27315, .int .i64 100]) ∧ Below w.heap.size w w' := by
  go_enter Tryz.func119, Tryz.ntmps119
  go_wp2
  exact bodyPost_ret (v := .agg #[.int .i64 27315, .int .i64 100]) (by simp [results, Tryz.results119, go_sem]) rfl ⟨rfl, (((Below.refl _ _).alloc (Nat.le_refl _) _).alloc (by simp) _).alloc (by simp; omega) _⟩

set_option maxRecDepth 100000 in
set_option maxHeartbeats 2000000 in
theorem plus_r (w : World) : Calls Tryz.prog 119 #[.agg #[.int .i64 160, .int .i64 9], .agg #[.int .i64 0, .int .i64 1]] w fun r w' => r = .returned (.agg #[.int .i64 160, .int .i64 9]) ∧ Below w.heap.size w w' := by
  go_enter Tryz.func119, Tryz.ntmps119
  go_wp2
  exact bodyPost_ret (v := .agg #[.int .i64 160, .int .i64 9]) (by simp [results, Tryz.results119, go_sem]) rfl ⟨rfl, (((Below.refl _ _).alloc (Nat.le_refl _) _).alloc (by simp) _).alloc (by simp; omega) _⟩

set_option maxRecDepth 100000 in
set_option maxHeartbeats 2000000 in
theorem plus_f (w : World) : Calls Tryz.prog 119 #[.agg #[.int .i64 27315, .int .i64 100], .agg #[.int .i64 (-160), .int .i64 9]] w fun r w' => r = .returned (.agg #[.int .i64 229835, .int .i64 900]) ∧ Below w.heap.size w w' := by
  go_enter Tryz.func119, Tryz.ntmps119
  go_wp2
  exact bodyPost_ret (v := .agg #[.int .i64 229835, .int .i64 900]) (by simp [results, Tryz.results119, go_sem]) rfl ⟨rfl, (((Below.refl _ _).alloc (Nat.le_refl _) _).alloc (by simp) _).alloc (by simp; omega) _⟩

set_option maxRecDepth 100000 in
set_option maxHeartbeats 2000000 in
theorem less_f (w : World) : Calls Tryz.prog 105 #[.agg #[.int .i64 27315, .int .i64 100], .agg #[.int .i64 160, .int .i64 9]] w fun r w' => r = .returned (.agg #[.int .i64 229835, .int .i64 900]) ∧ Below w.heap.size w w' := by
  obtain ⟨V, hV⟩ : ∃ V, V = ((w.alloc (.cells #[.int .i64 27315, .int .i64 100] 96)).alloc (.cells #[.int .i64 160, .int .i64 9] 96)).alloc (.cells #[.int .i64 0, .int .i64 0] 96) := ⟨_, rfl⟩
  have HA : Hid (T2 V w.heap.size (.int .i64 27315) (.int .i64 100)) := by rw [hV]; exact ⟨by simp [go_sem], by simp [go_sem], by simp [go_sem], by simp [go_sem]⟩
  have HC : Hid (T2 V (w.heap.size + 1) (.int .i64 160) (.int .i64 9)) := by rw [hV]; exact ⟨by simp [go_sem], by simp [go_sem], by simp [go_sem], by simp [go_sem]⟩
  have HR : Hid (T2 V (w.heap.size + 2) (.int .i64 0) (.int .i64 0)) := by rw [hV]; exact ⟨by simp [go_sem], by simp [go_sem], by simp [go_sem], by simp [go_sem]⟩
  have HB : Hid (Below w.heap.size w V) := by rw [hV]; exact (((Below.refl _ _).alloc (Nat.le_refl _) _).alloc (by simp) _).alloc (by simp; omega) _
  have HV := hide hV
  clear hV
  go_enter Tryz.func105, Tryz.ntmps105
  go_upto_region 1 with fail
  rw [← unhide HV]
  clear HV
  have a0 := (unhide HA).c0; have a1 := (unhide HA).c1; have b0 := (unhide HC).c0; have b1 := (unhide HC).c1
  go_wp2_with (go_at_call 119; go_must (refine (plus_f _).mono ?_; rintro e wt ⟨rfl, hbt⟩; have HT := hide ((unhide HR).later hbt); have HBT : Hid (Below w.heap.size w wt) := (unhide HB).trans (hbt.mono (unhide HB).size); clear hbt a0 a1 b0 b1; have r0 := (unhide HT).c0; have r1 := (unhide HT).c1; have f0 := (unhide HT).f0; have f1 := (unhide HT).f1))
  have hS := (unhide HT).store (.int .i64 229835) (.int .i64 900)
  have v0 := hS.c0; have v1 := hS.c1
  exact bodyPost_ret (v := .agg #[.int .i64 229835, .int .i64 900]) (w := store2 wt (w.heap.size + 2) (.int .i64 229835) (.int .i64 900)) (by simp [results, Tryz.results105, go_sem, v0, v1]) rfl ⟨rfl, below_store2 (unhide HBT) (by omega) _ _⟩

set_option maxRecDepth 100000 in
set_option maxHeartbeats 2000000 in
theorem kelvins_c (w : World) : Calls Tryz.prog 104 #[.agg #[.int .i64 1, .int .i64 1, .int .i64 27315, .int .i64 100], .agg #[.int .i64 0, .int .i64 1]] w fun r w' => r = .returned (.agg #[.int .i64 27315, .int .i64 100]) ∧ Below w.heap.size w w' := by
  obtain ⟨V, hV⟩ : ∃ V, V = ((w.alloc (.cells #[.int .i64 1, .int .i64 1, .int .i64 27315, .int .i64 100] 98)).alloc (.cells #[.int .i64 0, .int .i64 1] 96)).alloc (.cells #[.int .i64 0, .int .i64 0] 96) := ⟨_, rfl⟩
  have HA : Hid (T4 V w.heap.size (.int .i64 1) (.int .i64 1) (.int .i64 27315) (.int .i64 100)) := by rw [hV]; exact ⟨by simp [go_sem], by simp [go_sem], by simp [go_sem], by simp [go_sem], by simp [go_sem], by simp [go_sem], by simp [go_sem], by simp [go_sem]⟩
  have HC : Hid (T2 V (w.heap.size + 1) (.int .i64 0) (.int .i64 1)) := by rw [hV]; exact ⟨by simp [go_sem], by simp [go_sem], by simp [go_sem], by simp [go_sem]⟩
  have HR : Hid (T2 V (w.heap.size + 2) (.int .i64 0) (.int .i64 0)) := by rw [hV]; exact ⟨by simp [go_sem], by simp [go_sem], by simp [go_sem], by simp [go_sem]⟩
  have HB : Hid (Below w.heap.size w V) := by rw [hV]; exact (((Below.refl _ _).alloc (Nat.le_refl _) _).alloc (by simp) _).alloc (by simp; omega) _
  have HV := hide hV
  clear hV
  go_enter Tryz.func104, Tryz.ntmps104
  go_upto_region 1 with fail
  rw [← unhide HV]
  clear HV
  have HS : Hid (∀ W, Below V.heap.size V W → W.cell? ⟨w.heap.size, 0, none⟩ = some (.int .i64 1) ∧ W.cell? ⟨w.heap.size, 1, none⟩ = some (.int .i64 1) ∧ W.cell? ⟨w.heap.size, 2, none⟩ = some (.int .i64 27315) ∧ W.cell? ⟨w.heap.size, 3, none⟩ = some (.int .i64 100) ∧ W.cell? ⟨w.heap.size + 1, 0, none⟩ = some (.int .i64 0) ∧ W.cell? ⟨w.heap.size + 1, 1, none⟩ = some (.int .i64 1)) := fun W hb => by
    have h1 := (unhide HA).later hb; have h2 := (unhide HC).later hb
    exact ⟨h1.c0, h1.c1, h1.c2, h1.c3, h2.c0, h2.c1⟩
  have HS0 := hide (unhide HS V.drew ((Below.refl _ _).drew))
  refine region_reads 7 (fun W => W.cell? ⟨w.heap.size, 0, none⟩ = some (.int .i64 1) ∧ W.cell? ⟨w.heap.size, 1, none⟩ = some (.int .i64 1) ∧ W.cell? ⟨w.heap.size, 2, none⟩ = some (.int .i64 27315) ∧ W.cell? ⟨w.heap.size, 3, none⟩ = some (.int .i64 100) ∧ W.cell? ⟨w.heap.size + 1, 0, none⟩ = some (.int .i64 0) ∧ W.cell? ⟨w.heap.size + 1, 1, none⟩ = some (.int .i64 1)) (fun _ => True) 8 rfl (by kernel_rfl) ?_
  refine wpR_take (i := 0) (oi := _) (v := .pointer (some ⟨w.heap.size, 0, none⟩)) rfl (by kernel_rfl) (by kernel_rfl) (by kernel_rfl) (by kernel_rfl) (fun _ _ _ h => h) (Or.inl ⟨by rfl, ?_⟩) ⟨unhide HS0, trivial⟩ ?_
  · intro W hW
    go_split_ands
    go_simp
  refine wpR_take (i := 1) (oi := _) (v := .agg #[.int .i64 1, .int .i64 1]) rfl (by kernel_rfl) (by kernel_rfl) (by kernel_rfl) (by kernel_rfl) (fun _ _ _ h => h) (Or.inl ⟨by rfl, ?_⟩) ⟨unhide HS0, trivial⟩ ?_
  · intro W hW
    go_split_ands
    go_simp
  refine wpR_take (i := 2) (oi := _) (v := .agg #[.int .i64 0, .int .i64 1]) rfl (by kernel_rfl) (by kernel_rfl) (by kernel_rfl) (by kernel_rfl) (fun _ _ _ h => h) (Or.inl ⟨by rfl, ?_⟩) ⟨unhide HS0, trivial⟩ ?_
  · intro W hW
    go_split_ands
    go_simp
  refine wpR_take (i := 4) (oi := _) (v := .pointer (some ⟨w.heap.size, 2, none⟩)) rfl (by kernel_rfl) (by kernel_rfl) (by kernel_rfl) (by kernel_rfl) (fun _ _ _ h => h) (Or.inl ⟨by rfl, ?_⟩) ⟨unhide HS0, trivial⟩ ?_
  · intro W hW
    go_split_ands
    go_simp
  refine wpR_take (i := 5) (oi := _) (v := .agg #[.int .i64 27315, .int .i64 100]) rfl (by kernel_rfl) (by kernel_rfl) (by kernel_rfl) (by kernel_rfl) (fun _ _ _ h => h) (Or.inl ⟨by rfl, ?_⟩) ⟨unhide HS0, trivial⟩ ?_
  · intro W hW
    go_split_ands
    go_simp
  refine wpR_op (i := 3) (o := _) (by kernel_rfl) rfl rfl (fun K hK => ?_)
  go_simp
  refine (times_c _).mono ?_
  rintro e wa ⟨rfl, hba⟩
  have HBA : Hid (Below V.heap.size V wa) := (Below.refl _ _).drew.trans (hba.mono (Below.refl V.heap.size V).drew.size)
  have HSA := hide (unhide HS wa (unhide HBA))
  clear hba
  refine hK _ _ ⟨unhide HSA, trivial⟩ ?_
  clear hK K
  refine wpR_op (i := 6) (o := _) (by kernel_rfl) rfl rfl (fun K hK => ?_)
  go_simp
  refine (plus_c _).mono ?_
  rintro e wt ⟨rfl, hbt⟩
  have HBT : Hid (Below V.heap.size V wt) := (unhide HBA).trans (hbt.mono (unhide HBA).size)
  have HST := hide (unhide HS wt (unhide HBT))
  have HT := hide ((unhide HR).later (unhide HBT))
  clear hbt
  have r0 := (unhide HT).c0; have r1 := (unhide HT).c1; have f0 := (unhide HT).f0; have f1 := (unhide HT).f1
  refine hK _ _ ⟨unhide HST, trivial⟩ ?_
  clear hK K
  refine wpR_late (i := 7) (o := _) (by kernel_rfl) rfl rfl (by kernel_rfl) (fun K hK => ?_)
  go_simp
  refine hK _ _ trivial ?_
  clear hK K
  refine wpR_done (by kernel_rfl) ?_
  go_wp2_with fail
  have hS := (unhide HT).store (.int .i64 27315) (.int .i64 100)
  have v0 := hS.c0; have v1 := hS.c1
  exact bodyPost_ret (v := .agg #[.int .i64 27315, .int .i64 100]) (w := store2 wt (w.heap.size + 2) (.int .i64 27315) (.int .i64 100)) (by simp [results, Tryz.results104, go_sem, v0, v1]) rfl ⟨rfl, below_store2 ((unhide HB).trans ((unhide HBT).mono (unhide HB).size)) (by omega) _ _⟩

set_option maxRecDepth 100000 in
set_option maxHeartbeats 2000000 in
theorem kelvins_r (w : World) : Calls Tryz.prog 104 #[.agg #[.int .i64 5, .int .i64 9, .int .i64 0, .int .i64 1], .agg #[.int .i64 32, .int .i64 1]] w fun r w' => r = .returned (.agg #[.int .i64 160, .int .i64 9]) ∧ Below w.heap.size w w' := by
  obtain ⟨V, hV⟩ : ∃ V, V = ((w.alloc (.cells #[.int .i64 5, .int .i64 9, .int .i64 0, .int .i64 1] 98)).alloc (.cells #[.int .i64 32, .int .i64 1] 96)).alloc (.cells #[.int .i64 0, .int .i64 0] 96) := ⟨_, rfl⟩
  have HA : Hid (T4 V w.heap.size (.int .i64 5) (.int .i64 9) (.int .i64 0) (.int .i64 1)) := by rw [hV]; exact ⟨by simp [go_sem], by simp [go_sem], by simp [go_sem], by simp [go_sem], by simp [go_sem], by simp [go_sem], by simp [go_sem], by simp [go_sem]⟩
  have HC : Hid (T2 V (w.heap.size + 1) (.int .i64 32) (.int .i64 1)) := by rw [hV]; exact ⟨by simp [go_sem], by simp [go_sem], by simp [go_sem], by simp [go_sem]⟩
  have HR : Hid (T2 V (w.heap.size + 2) (.int .i64 0) (.int .i64 0)) := by rw [hV]; exact ⟨by simp [go_sem], by simp [go_sem], by simp [go_sem], by simp [go_sem]⟩
  have HB : Hid (Below w.heap.size w V) := by rw [hV]; exact (((Below.refl _ _).alloc (Nat.le_refl _) _).alloc (by simp) _).alloc (by simp; omega) _
  have HV := hide hV
  clear hV
  go_enter Tryz.func104, Tryz.ntmps104
  go_upto_region 1 with fail
  rw [← unhide HV]
  clear HV
  have HS : Hid (∀ W, Below V.heap.size V W → W.cell? ⟨w.heap.size, 0, none⟩ = some (.int .i64 5) ∧ W.cell? ⟨w.heap.size, 1, none⟩ = some (.int .i64 9) ∧ W.cell? ⟨w.heap.size, 2, none⟩ = some (.int .i64 0) ∧ W.cell? ⟨w.heap.size, 3, none⟩ = some (.int .i64 1) ∧ W.cell? ⟨w.heap.size + 1, 0, none⟩ = some (.int .i64 32) ∧ W.cell? ⟨w.heap.size + 1, 1, none⟩ = some (.int .i64 1)) := fun W hb => by
    have h1 := (unhide HA).later hb; have h2 := (unhide HC).later hb
    exact ⟨h1.c0, h1.c1, h1.c2, h1.c3, h2.c0, h2.c1⟩
  have HS0 := hide (unhide HS V.drew ((Below.refl _ _).drew))
  refine region_reads 7 (fun W => W.cell? ⟨w.heap.size, 0, none⟩ = some (.int .i64 5) ∧ W.cell? ⟨w.heap.size, 1, none⟩ = some (.int .i64 9) ∧ W.cell? ⟨w.heap.size, 2, none⟩ = some (.int .i64 0) ∧ W.cell? ⟨w.heap.size, 3, none⟩ = some (.int .i64 1) ∧ W.cell? ⟨w.heap.size + 1, 0, none⟩ = some (.int .i64 32) ∧ W.cell? ⟨w.heap.size + 1, 1, none⟩ = some (.int .i64 1)) (fun _ => True) 8 rfl (by kernel_rfl) ?_
  refine wpR_take (i := 0) (oi := _) (v := .pointer (some ⟨w.heap.size, 0, none⟩)) rfl (by kernel_rfl) (by kernel_rfl) (by kernel_rfl) (by kernel_rfl) (fun _ _ _ h => h) (Or.inl ⟨by rfl, ?_⟩) ⟨unhide HS0, trivial⟩ ?_
  · intro W hW
    go_split_ands
    go_simp
  refine wpR_take (i := 1) (oi := _) (v := .agg #[.int .i64 5, .int .i64 9]) rfl (by kernel_rfl) (by kernel_rfl) (by kernel_rfl) (by kernel_rfl) (fun _ _ _ h => h) (Or.inl ⟨by rfl, ?_⟩) ⟨unhide HS0, trivial⟩ ?_
  · intro W hW
    go_split_ands
    go_simp
  refine wpR_take (i := 2) (oi := _) (v := .agg #[.int .i64 32, .int .i64 1]) rfl (by kernel_rfl) (by kernel_rfl) (by kernel_rfl) (by kernel_rfl) (fun _ _ _ h => h) (Or.inl ⟨by rfl, ?_⟩) ⟨unhide HS0, trivial⟩ ?_
  · intro W hW
    go_split_ands
    go_simp
  refine wpR_take (i := 4) (oi := _) (v := .pointer (some ⟨w.heap.size, 2, none⟩)) rfl (by kernel_rfl) (by kernel_rfl) (by kernel_rfl) (by kernel_rfl) (fun _ _ _ h => h) (Or.inl ⟨by rfl, ?_⟩) ⟨unhide HS0, trivial⟩ ?_
  · intro W hW
    go_split_ands
    go_simp
  refine wpR_take (i := 5) (oi := _) (v := .agg #[.int .i64 0, .int .i64 1]) rfl (by kernel_rfl) (by kernel_rfl) (by kernel_rfl) (by kernel_rfl) (fun _ _ _ h => h) (Or.inl ⟨by rfl, ?_⟩) ⟨unhide HS0, trivial⟩ ?_
  · intro W hW
    go_split_ands
    go_simp
  refine wpR_op (i := 3) (o := _) (by kernel_rfl) rfl rfl (fun K hK => ?_)
  go_simp
  refine (times_r _).mono ?_
  rintro e wa ⟨rfl, hba⟩
  have HBA : Hid (Below V.heap.size V wa) := (Below.refl _ _).drew.trans (hba.mono (Below.refl V.heap.size V).drew.size)
  have HSA := hide (unhide HS wa (unhide HBA))
  clear hba
  refine hK _ _ ⟨unhide HSA, trivial⟩ ?_
  clear hK K
  refine wpR_op (i := 6) (o := _) (by kernel_rfl) rfl rfl (fun K hK => ?_)
  go_simp
  refine (plus_r _).mono ?_
  rintro e wt ⟨rfl, hbt⟩
  have HBT : Hid (Below V.heap.size V wt) := (unhide HBA).trans (hbt.mono (unhide HBA).size)
  have HST := hide (unhide HS wt (unhide HBT))
  have HT := hide ((unhide HR).later (unhide HBT))
  clear hbt
  have r0 := (unhide HT).c0; have r1 := (unhide HT).c1; have f0 := (unhide HT).f0; have f1 := (unhide HT).f1
  refine hK _ _ ⟨unhide HST, trivial⟩ ?_
  clear hK K
  refine wpR_late (i := 7) (o := _) (by kernel_rfl) rfl rfl (by kernel_rfl) (fun K hK => ?_)
  go_simp
  refine hK _ _ trivial ?_
  clear hK K
  refine wpR_done (by kernel_rfl) ?_
  go_wp2_with fail
  have hS := (unhide HT).store (.int .i64 160) (.int .i64 9)
  have v0 := hS.c0; have v1 := hS.c1
  exact bodyPost_ret (v := .agg #[.int .i64 160, .int .i64 9]) (w := store2 wt (w.heap.size + 2) (.int .i64 160) (.int .i64 9)) (by simp [results, Tryz.results104, go_sem, v0, v1]) rfl ⟨rfl, below_store2 ((unhide HB).trans ((unhide HBT).mono (unhide HB).size)) (by omega) _ _⟩

/-- A call that answers a scale, and makes new memory alone. -/
def MadeS (f : Nat) (a b c d : Int) : Prop := ∀ W, Calls Tryz.prog f #[] W fun r w' => r = .returned (.agg #[.int .i64 a, .int .i64 b, .int .i64 c, .int .i64 d]) ∧ Below W.heap.size W w'

set_option maxRecDepth 100000 in
set_option maxHeartbeats 2000000 in
theorem kelvin_made : MadeS 65 1 1 0 1 := by
  intro w
  go_enter Tryz.func65, Tryz.ntmps65
  go_wp2
  exact bodyPost_ret (v := .agg #[.int .i64 1, .int .i64 1, .int .i64 0, .int .i64 1]) (by simp [results, Tryz.results65, go_sem]) rfl ⟨rfl, (Below.refl _ _).alloc (Nat.le_refl _) _⟩

set_option maxRecDepth 100000 in
set_option maxHeartbeats 2000000 in
theorem rankine_made : MadeS 89 5 9 0 1 := by
  intro w
  go_enter Tryz.func89, Tryz.ntmps89
  go_wp2
  exact bodyPost_ret (v := .agg #[.int .i64 5, .int .i64 9, .int .i64 0, .int .i64 1]) (by simp [results, Tryz.results89, go_sem]) rfl ⟨rfl, (Below.refl _ _).alloc (Nat.le_refl _) _⟩

set_option maxRecDepth 100000 in
set_option maxHeartbeats 2000000 in
theorem celsius_made : MadeS 90 1 1 27315 100 := by
  intro w
  go_enter Tryz.func90, Tryz.ntmps90
  go_wp2
  exact bodyPost_ret (v := .agg #[.int .i64 1, .int .i64 1, .int .i64 27315, .int .i64 100]) (by simp [results, Tryz.results90, go_sem]) rfl ⟨rfl, (Below.refl _ _).alloc (Nat.le_refl _) _⟩

end Go.Proofs.YtdmecoleplpdbaaGreatDoor

namespace Go.Proofs.YtdmecoleplpdbaaGreatDoor
open Go.RowKit
set_option maxRecDepth 100000 in
set_option maxHeartbeats 4000000 in
theorem fahrenheit_made : MadeS 91 5 9 229835 900 := by
  intro w
  obtain ⟨V, hV⟩ : ∃ V, V = w.alloc (.cells #[.int .i64 0, .int .i64 0, .int .i64 0, .int .i64 0] 98) := ⟨_, rfl⟩
  have HR : Hid (T4 V w.heap.size (.int .i64 0) (.int .i64 0) (.int .i64 0) (.int .i64 0)) := by rw [hV]; exact ⟨by simp [go_sem], by simp [go_sem], by simp [go_sem], by simp [go_sem], by simp [go_sem], by simp [go_sem], by simp [go_sem], by simp [go_sem]⟩
  have HB : Hid (Below w.heap.size w V) := by rw [hV]; exact (Below.refl _ _).alloc (Nat.le_refl _) _
  have HV := hide hV
  clear hV
  have HM1 := hide rankine_made; have HM2 := hide celsius_made
  unfold MadeS at HM1 HM2
  go_enter Tryz.func91, Tryz.ntmps91
  go_upto_region 1 with fail
  rw [← unhide HV]
  clear HV
  go_upto_region 2 with (first
    | (go_at_call 89; go_must (refine (unhide HM1 _).mono ?_; rintro e w1 ⟨rfl, hb1⟩; have HB1 := hide hb1; clear hb1))
    | (go_at_call 90; go_must (refine (unhide HM2 _).mono ?_; rintro e w2 ⟨rfl, hb2⟩; have HB2 : Hid (Below V.heap.size V w2) := (unhide HB1).trans (hb2.mono (unhide HB1).size); clear hb2)))
  obtain ⟨U, hU⟩ : ∃ U, U = (w2.alloc (.cells #[.int .i64 5, .int .i64 9, .int .i64 0, .int .i64 1] 98)).alloc (.cells #[.int .i64 1, .int .i64 1, .int .i64 27315, .int .i64 100] 98) := ⟨_, rfl⟩
  have HU1 : Hid (T4 U w2.heap.size (.int .i64 5) (.int .i64 9) (.int .i64 0) (.int .i64 1)) := by rw [hU]; exact ⟨by simp [go_sem], by simp [go_sem], by simp [go_sem], by simp [go_sem], by simp [go_sem], by simp [go_sem], by simp [go_sem], by simp [go_sem]⟩
  have HU2 : Hid (T4 U (w2.heap.size + 1) (.int .i64 1) (.int .i64 1) (.int .i64 27315) (.int .i64 100)) := by rw [hU]; exact ⟨by simp [go_sem], by simp [go_sem], by simp [go_sem], by simp [go_sem], by simp [go_sem], by simp [go_sem], by simp [go_sem], by simp [go_sem]⟩
  have HBU : Hid (Below V.heap.size V U) := by rw [hU]; exact ((unhide HB2).alloc (unhide HB2).size _).alloc (by have h := (unhide HB2).size; simp; omega) _
  rw [← hU]
  clear hU
  generalize w2.heap.size = g1 at *
  have HRU := hide ((unhide HR).later (unhide HBU))
  have HBW : Hid (Below w.heap.size w U) := (unhide HB).trans ((unhide HBU).mono (unhide HB).size)
  have a0 := (unhide HU1).c0; have a1 := (unhide HU1).c1; have a2 := (unhide HU1).c2; have a3 := (unhide HU1).c3
  have b0 := (unhide HU2).c0; have b1 := (unhide HU2).c1; have b2 := (unhide HU2).c2; have b3 := (unhide HU2).c3
  go_region_held3 (fun w' => w'.cell? ⟨g1, 0, none⟩ = some (.int .i64 5) ∧ w'.cell? ⟨g1, 1, none⟩ = some (.int .i64 9) ∧ w'.cell? ⟨g1, 2, none⟩ = some (.int .i64 0) ∧ w'.cell? ⟨g1, 3, none⟩ = some (.int .i64 1) ∧ w'.cell? ⟨g1 + 1, 0, none⟩ = some (.int .i64 1) ∧ w'.cell? ⟨g1 + 1, 1, none⟩ = some (.int .i64 1) ∧ w'.cell? ⟨g1 + 1, 2, none⟩ = some (.int .i64 27315) ∧ w'.cell? ⟨g1 + 1, 3, none⟩ = some (.int .i64 100)) (first | assumption | (simp [go_sem, *]; done)) (fail)
  all_goals
    have HSS : Hid (∀ W, Below U.heap.size U W → W.cell? ⟨g1, 0, none⟩ = some (.int .i64 5) ∧ W.cell? ⟨g1, 1, none⟩ = some (.int .i64 9)) := fun W hb => by
      have h1 := (unhide HU1).later hb
      exact ⟨h1.c0, h1.c1⟩
    have HS0 := hide (unhide HSS U.drew.drew ((Below.refl _ _).drew.drew))
    go_upto_region 3 with fail
    refine region_reads 10 (fun W => W.cell? ⟨g1, 0, none⟩ = some (.int .i64 5) ∧ W.cell? ⟨g1, 1, none⟩ = some (.int .i64 9)) (fun _ => True) 11 rfl (by kernel_rfl) ?_
    refine wpR_take (i := 0) (oi := _) (v := .pointer (some ⟨g1, 0, none⟩)) rfl (by kernel_rfl) (by kernel_rfl) (by kernel_rfl) (by kernel_rfl) (fun _ _ _ h => h) (Or.inl ⟨by rfl, ?_⟩) ⟨unhide HS0, trivial⟩ ?_
    · intro W hW
      go_split_ands
      go_simp
    refine wpR_take (i := 1) (oi := _) (v := .agg #[.int .i64 5, .int .i64 9]) rfl (by kernel_rfl) (by kernel_rfl) (by kernel_rfl) (by kernel_rfl) (fun _ _ _ h => h) (Or.inl ⟨by rfl, ?_⟩) ⟨unhide HS0, trivial⟩ ?_
    · intro W hW
      go_split_ands
      go_simp
    refine wpR_take (i := 2) (oi := _) (v := .func (.func 104) #[.agg #[.int .i64 1, .int .i64 1, .int .i64 27315, .int .i64 100]] #[]) rfl (by kernel_rfl) (by kernel_rfl) (by kernel_rfl) (by kernel_rfl) (fun _ _ _ h => h) (Or.inl ⟨by rfl, ?_⟩) ⟨unhide HS0, trivial⟩ ?_
    · intro W hW
      go_split_ands
      go_simp
    refine wpR_take (i := 3) (oi := _) (v := .agg #[.int .i64 0, .int .i64 1]) rfl (by kernel_rfl) (by kernel_rfl) (by kernel_rfl) (by kernel_rfl) (fun _ _ _ h => h) (Or.inl ⟨by rfl, ?_⟩) ⟨unhide HS0, trivial⟩ ?_
    · intro W hW
      go_split_ands
      go_simp
    refine wpR_take (i := 5) (oi := _) (v := .func (.func 104) #[.agg #[.int .i64 5, .int .i64 9, .int .i64 0, .int .i64 1]] #[]) rfl (by kernel_rfl) (by kernel_rfl) (by kernel_rfl) (by kernel_rfl) (fun _ _ _ h => h) (Or.inl ⟨by rfl, ?_⟩) ⟨unhide HS0, trivial⟩ ?_
    · intro W hW
      go_split_ands
      go_simp
    refine wpR_take (i := 6) (oi := _) (v := .agg #[.int .i64 32, .int .i64 1]) rfl (by kernel_rfl) (by kernel_rfl) (by kernel_rfl) (by kernel_rfl) (fun _ _ _ h => h) (Or.inl ⟨by rfl, ?_⟩) ⟨unhide HS0, trivial⟩ ?_
    · intro W hW
      go_split_ands
      go_simp
    refine wpR_op (i := 4) (o := _) (by kernel_rfl) rfl rfl (fun K hK => ?_)
    go_simp
    refine (kelvins_c _).mono ?_
    rintro e wa ⟨rfl, hbwa⟩
    have HBwa : Hid (Below U.heap.size U wa) := ((Below.refl U.heap.size U).drew.drew).trans (hbwa.mono ((Below.refl U.heap.size U).drew.drew).size)
    have HSwa := hide (unhide HSS wa (unhide HBwa))
    clear hbwa
    refine hK _ _ ⟨unhide HSwa, trivial⟩ ?_
    clear hK K
    refine wpR_op (i := 7) (o := _) (by kernel_rfl) rfl rfl (fun K hK => ?_)
    go_simp
    refine (kelvins_r _).mono ?_
    rintro e wc ⟨rfl, hbwc⟩
    have HBwc : Hid (Below U.heap.size U wc) := (unhide HBwa).trans (hbwc.mono (unhide HBwa).size)
    have HSwc := hide (unhide HSS wc (unhide HBwc))
    clear hbwc
    refine hK _ _ ⟨unhide HSwc, trivial⟩ ?_
    clear hK K
    refine wpR_op (i := 8) (o := _) (by kernel_rfl) rfl rfl (fun K hK => ?_)
    go_simp
    refine (less_f _).mono ?_
    rintro e wd ⟨rfl, hbwd⟩
    have HBwd : Hid (Below U.heap.size U wd) := (unhide HBwc).trans (hbwd.mono (unhide HBwc).size)
    have HSwd := hide (unhide HSS wd (unhide HBwd))
    clear hbwd
    have HT := hide ((unhide HRU).later (unhide HBwd))
    have r0 := (unhide HT).c0; have r1 := (unhide HT).c1; have r2 := (unhide HT).c2; have r3 := (unhide HT).c3; have f0 := (unhide HT).f0; have f1 := (unhide HT).f1; have f2 := (unhide HT).f2; have f3 := (unhide HT).f3
    refine hK _ _ ⟨unhide HSwd, trivial⟩ ?_
    clear hK K
    refine wpR_op (i := 9) (o := _) (by kernel_rfl) rfl rfl (fun K hK => ?_)
    go_simp
    refine hK _ _ ⟨unhide HSwd, trivial⟩ ?_
    clear hK K
    refine wpR_late (i := 10) (o := _) (by kernel_rfl) rfl rfl (by kernel_rfl) (fun K hK => ?_)
    go_simp
    refine hK _ _ trivial ?_
    clear hK K
    refine wpR_done (by kernel_rfl) ?_
    go_wp2_with fail
    have hS := (unhide HT).store (.int .i64 5) (.int .i64 9) (.int .i64 229835) (.int .i64 900)
    have v0 := hS.c0; have v1 := hS.c1; have v2 := hS.c2; have v3 := hS.c3
    exact bodyPost_ret (v := .agg #[.int .i64 5, .int .i64 9, .int .i64 229835, .int .i64 900]) (w := store4 wd w.heap.size (.int .i64 5) (.int .i64 9) (.int .i64 229835) (.int .i64 900)) (by simp [results, Tryz.results91, go_sem, v0, v1, v2, v3]) rfl ⟨rfl, below_store4 ((unhide HBW).trans ((unhide HBwd).mono (unhide HBW).size)) (Nat.le_refl _) _ _ _ _⟩
end Go.Proofs.YtdmecoleplpdbaaGreatDoor

namespace Go.Proofs.YtdmecoleplpdbaaGreatDoor
open Go.RowKit

theorem digT_size (s : ByteArray) : (digT s).size ≤ s.size := by
  rw [← list_len, ← list_len, digT_list]
  split
  · simp
  · exact Nat.le_refl _
end Go.Proofs.YtdmecoleplpdbaaGreatDoor
